/- A part of the proof of RiverFlows. -/
import Derived.Test.YtcbkndfnjhfdpaaW8
/- The functions do what is said. -/
set_option linter.unusedVariables false
set_option linter.unusedSimpArgs false
namespace Go.Ev
open Go.Proofs
set_option maxHeartbeats 8000000
set_option maxRecDepth 100000
@[reducible] noncomputable def c_thalweglaw01_large : Con := conF F_thalweglaw01_large (fun x => match x with | (a0) => [(V.agg (eTthalweglaw01_Forecast a0))]) (fun r => (V.v (.bool (r))))
theorem h_thalweglaw01_large : Has Try.prog 7 c_thalweglaw01_large := by
  refine hasF ctx_nil mix Try.func7 rfl (by kernel_rfl) ?_
  rintro a0 r hF
  refine ⟨of_decide_eq_true rfl, ?_⟩
  refine st1 ?_
  rcases e_bif hF with ⟨hb1, hF⟩ | ⟨hb1, hF⟩ <;> (first | rw [hb1] | (conv => arg 7; rw [hb1]) | (conv => arg 9; rw [hb1]))
  · refine st1 ?_
    have hq : some _ = some _ := hF
    cases hq
    exact en1
  · refine st1 ?_
    rcases e_bif hF with ⟨hb2, hF⟩ | ⟨hb2, hF⟩ <;> (first | rw [hb2] | (conv => arg 7; rw [hb2]) | (conv => arg 9; rw [hb2]))
    · refine st1 ?_
      have hq : some _ = some _ := hF
      cases hq
      exact en1
    · refine st1 ?_
      rcases e_bif hF with ⟨hb3, hF⟩ | ⟨hb3, hF⟩ <;> (first | rw [hb3] | (conv => arg 7; rw [hb3]) | (conv => arg 9; rw [hb3]))
      · refine st1 ?_
        have hq : some _ = some _ := hF
        cases hq
        exact en1
      · refine st1 ?_
        refine st_loopF (e_assoc hF) () [(0, _)] ⟨sT, sS, by rfl, by rfl⟩ ?_
        · as_aux_lemma =>
          rintro n _ _ x hx1 hF
          (conv => arg 7; whnf); (conv => arg 8; whnf); (conv => arg 9; whnf)
          refine st1 ?_
          rcases e_bif hF with ⟨hb8, hF⟩ | ⟨hb8, hF⟩ <;> (first | rw [hb8] | (conv => arg 7; rw [hb8]) | (conv => arg 9; rw [hb8]))
          · refine st1 ?_
            obtain ⟨_, h, hF⟩ := e_bind hF
            (first | refine o_ia (enc := eTReach) (s := 9) h (fun _ => rfl) (by decide) ?_ | refine o_iaT (enc := eTReach) (s := 9) h (fun _ => rfl) (by decide) ?_)
            intro _
            refine st1 ?_
            rcases e_bif hF with ⟨hb9, hF⟩ | ⟨hb9, hF⟩ <;> (first | rw [hb9] | (conv => arg 7; rw [hb9]) | (conv => arg 9; rw [hb9]))
            · refine st1 ?_
              (first | have hF := e_next (e_some hF) | have hF := e_some hF)
              have hq : some _ = some _ := hF
              cases hq
              exact en1
            · refine st1 ?_
              exact k_loopF (e_some hF) hx1 () [(0, _)] ⟨sT, sS, by rfl, by rfl⟩
          · refine st1 ?_
            (first | have hF := e_next (e_some hF) | have hF := e_some hF)
            refine st_loopF (e_assoc hF) () [(0, _)] ⟨sT, sS, by rfl, by rfl⟩ ?_
            · as_aux_lemma =>
              rintro n _ _ x hx1 hF
              (conv => arg 7; whnf); (conv => arg 8; whnf); (conv => arg 9; whnf)
              refine st1 ?_
              rcases e_bif hF with ⟨hb14, hF⟩ | ⟨hb14, hF⟩ <;> (first | rw [hb14] | (conv => arg 7; rw [hb14]) | (conv => arg 9; rw [hb14]))
              · refine st1 ?_
                obtain ⟨_, h, hF⟩ := e_bind hF
                (first | refine o_ia (enc := (eS eTBounds)) (s := 1) h (fun _ => rfl) (by decide) ?_ | refine o_iaT (enc := (eS eTBounds)) (s := 1) h (fun _ => rfl) (by decide) ?_)
                intro _
                refine st1 ?_
                rcases e_bif hF with ⟨hb15, hF⟩ | ⟨hb15, hF⟩ <;> (first | rw [hb15] | (conv => arg 7; rw [hb15]) | (conv => arg 9; rw [hb15]))
                · refine st1 ?_
                  (first | have hF := e_next (e_some hF) | have hF := e_some hF)
                  have hq : some _ = some _ := hF
                  cases hq
                  exact en1
                · refine st1 ?_
                  exact k_loopF (e_some hF) hx1 () [(0, _)] ⟨sT, sS, by rfl, by rfl⟩
              · refine st1 ?_
                (first | have hF := e_next (e_some hF) | have hF := e_some hF)
                have hq : some _ = some _ := hF
                cases hq
                exact en1


@[reducible] noncomputable def c_thalweglaw01_copied : Con := conF F_thalweglaw01_copied (fun x => match x with | (a0) => [(V.agg (eTRiver a0))]) (fun r => (V.agg (eTRiver r)))
theorem h_thalweglaw01_copied : Has Try.prog 9 c_thalweglaw01_copied := by
  refine hasF ctx_nil mix Try.func9 rfl (by kernel_rfl) ?_
  rintro a0 r hF
  refine ⟨of_decide_eq_true rfl, ?_⟩
  refine st1 ?_
  refine st_loopF (e_assoc hF) () [(0, _), (1, _), (2, _)] ⟨sT, sS, by rfl, by rfl⟩ ?_
  · as_aux_lemma =>
    rintro n ⟨_, _⟩ _ x hx1 hF
    (conv => arg 7; whnf); (conv => arg 8; whnf); (conv => arg 9; whnf)
    refine st1 ?_
    rcases e_bif hF with ⟨hb3, hF⟩ | ⟨hb3, hF⟩ <;> (first | rw [hb3] | (conv => arg 7; rw [hb3]) | (conv => arg 9; rw [hb3]))
    · refine st1 ?_
      obtain ⟨_, h, hF⟩ := e_bind hF
      (first | refine o_ia (enc := eTReach) (s := 9) h (fun _ => rfl) (by decide) ?_ | refine o_iaT (enc := eTReach) (s := 9) h (fun _ => rfl) (by decide) ?_)
      intro _
      refine st1 ?_
      obtain ⟨_, h, hF⟩ := e_bind hF
      (first | refine o_app (enc := eTRateRow) (s := 2) h (fun _ => rfl) ?_ | refine o_appT (enc := eTRateRow) (s := 2) h (fun _ => rfl) ?_)
      refine st1 ?_
      obtain ⟨_, h, hF⟩ := e_bind hF
      (first | refine o_app (enc := eTReach) (s := 9) h (fun _ => rfl) ?_ | refine o_appT (enc := eTReach) (s := 9) h (fun _ => rfl) ?_)
      refine st1 ?_
      exact k_loopF (e_some hF) hx1 () [(0, _), (1, _), (2, _)] ⟨sT, sS, by rfl, by rfl⟩
    · refine st1 ?_
      (first | have hF := e_next (e_some hF) | have hF := e_some hF)
      obtain ⟨_, h, hF⟩ := e_bind hF
      (first | refine o_app (enc := eTShoal) (s := 6) h (fun _ => rfl) ?_ | refine o_appT (enc := eTShoal) (s := 6) h (fun _ => rfl) ?_)
      refine st1 ?_
      have hq : some _ = some _ := hF
      cases hq
      exact en1


@[reducible] noncomputable def c_thalweglaw01_forecast : Con := conF F_thalweglaw01_forecast (fun x => match x with | (a0) => [(V.sl (recs (eS eTBounds) (a0)) (a0).length)]) (fun r => (V.sl (recs (eS eTBounds) (r)) (r).length))
theorem h_thalweglaw01_forecast : Has Try.prog 10 c_thalweglaw01_forecast := by
  refine hasF ctx_nil mix Try.func10 rfl (by kernel_rfl) ?_
  rintro a0 r hF
  refine ⟨of_decide_eq_true rfl, ?_⟩
  refine st1 ?_
  refine st_loopF (e_assoc hF) () [(1, _)] ⟨sT, sS, by rfl, by rfl⟩ ?_
  · as_aux_lemma =>
    rintro n ⟨_, _⟩ _ x hx1 hF
    (conv => arg 7; whnf); (conv => arg 8; whnf); (conv => arg 9; whnf)
    refine st1 ?_
    rcases e_bif hF with ⟨hb3, hF⟩ | ⟨hb3, hF⟩ <;> (first | rw [hb3] | (conv => arg 7; rw [hb3]) | (conv => arg 9; rw [hb3]))
    · refine st1 ?_
      obtain ⟨_, h, hF⟩ := e_bind hF
      (first | refine o_ia (enc := (eS eTBounds)) (s := 1) h (fun _ => rfl) (by decide) ?_ | refine o_iaT (enc := (eS eTBounds)) (s := 1) h (fun _ => rfl) (by decide) ?_)
      intro _
      refine st1 ?_
      obtain ⟨_, h, hF⟩ := e_bind hF
      (first | refine o_app (enc := eTBounds) (s := 2) h (fun _ => rfl) ?_ | refine o_appT (enc := eTBounds) (s := 2) h (fun _ => rfl) ?_)
      refine st1 ?_
      obtain ⟨_, h, hF⟩ := e_bind hF
      (first | refine o_app (enc := (eS eTBounds)) (s := 1) h (fun _ => rfl) ?_ | refine o_appT (enc := (eS eTBounds)) (s := 1) h (fun _ => rfl) ?_)
      refine st1 ?_
      exact k_loopF (e_some hF) hx1 () [(1, _)] ⟨sT, sS, by rfl, by rfl⟩
    · refine st1 ?_
      (first | have hF := e_next (e_some hF) | have hF := e_some hF)
      have hq : some _ = some _ := hF
      cases hq
      exact en1


@[reducible] noncomputable def c_thalweglaw01_unchanged : Con := conF F_thalweglaw01_unchanged (fun x => match x with | (a0, a1) => [(V.agg (eTRiver a0)), (V.agg (eTRiver a1))]) (fun r => (V.v (.bool (r))))
theorem fl_thalweglaw01_unchanged_42 : flatOf Try.prog 9 42 = some [true, true] := by kernel_rfl
theorem eg_thalweglaw01_unchanged_42 : Try.prog.eqGuardType Try.prog.depth 42 = false := by kernel_rfl
theorem ag_thalweglaw01_unchanged_42 : aggOf Try.prog 42 = some true := by kernel_rfl
theorem fl_thalweglaw01_unchanged_64 : flatOf Try.prog 9 64 = some [true, true, true, true, true, true] := by kernel_rfl
theorem eg_thalweglaw01_unchanged_64 : Try.prog.eqGuardType Try.prog.depth 64 = false := by kernel_rfl
theorem ag_thalweglaw01_unchanged_64 : aggOf Try.prog 64 = some true := by kernel_rfl
theorem fl_thalweglaw01_unchanged_93 : flatOf Try.prog 9 93 = some [true, true] := by kernel_rfl
theorem eg_thalweglaw01_unchanged_93 : Try.prog.eqGuardType Try.prog.depth 93 = false := by kernel_rfl
theorem ag_thalweglaw01_unchanged_93 : aggOf Try.prog 93 = some true := by kernel_rfl
theorem h_thalweglaw01_unchanged : Has Try.prog 13 c_thalweglaw01_unchanged := by
  refine hasF ctx_nil mix Try.func13 rfl (by kernel_rfl) ?_
  rintro ⟨a0, a1⟩ r hF
  refine ⟨of_decide_eq_true rfl, ?_⟩
  refine st1 ?_
  rcases e_bif hF with ⟨hb1, hF⟩ | ⟨hb1, hF⟩ <;> (first | rw [hb1] | (conv => arg 7; rw [hb1]) | (conv => arg 9; rw [hb1]))
  · refine st1 ?_
    have hq : some _ = some _ := hF
    cases hq
    exact en1
  · refine st1 ?_
    rcases e_bif hF with ⟨hb2, hF⟩ | ⟨hb2, hF⟩ <;> (first | rw [hb2] | (conv => arg 7; rw [hb2]) | (conv => arg 9; rw [hb2]))
    · refine st1 ?_
      have hq : some _ = some _ := hF
      cases hq
      exact en1
    · refine st1 ?_
      refine st_loopF (e_assoc hF) () [(0, _), (1, _)] ⟨sT, sS, by rfl, by rfl⟩ ?_
      · as_aux_lemma =>
        rintro n _ _ x hx1 hF
        (conv => arg 7; whnf); (conv => arg 8; whnf); (conv => arg 9; whnf)
        refine st1 ?_
        rcases e_bif hF with ⟨hb31, hF⟩ | ⟨hb31, hF⟩ <;> (first | rw [hb31] | (conv => arg 7; rw [hb31]) | (conv => arg 9; rw [hb31]))
        · refine st1 ?_
          obtain ⟨_, h, hF⟩ := e_bind hF
          (first | refine o_ia (enc := eTReach) (s := 9) h (fun _ => rfl) (by decide) ?_ | refine o_iaT (enc := eTReach) (s := 9) h (fun _ => rfl) (by decide) ?_)
          intro _
          refine st1 ?_
          obtain ⟨_, h, hF⟩ := e_bind hF
          (first | refine o_ia (enc := eTReach) (s := 9) h (fun _ => rfl) (by decide) ?_ | refine o_iaT (enc := eTReach) (s := 9) h (fun _ => rfl) (by decide) ?_)
          intro _
          refine st1 ?_
          rcases e_bif hF with ⟨hb32, hF⟩ | ⟨hb32, hF⟩ <;> (first | rw [hb32] | (conv => arg 7; rw [hb32]) | (conv => arg 9; rw [hb32]))
          · refine st1 ?_
            (first | have hF := e_next (e_some hF) | have hF := e_some hF)
            have hq : some _ = some _ := hF
            cases hq
            exact en1
          · refine st1 ?_
            rcases e_bif hF with ⟨hb33, hF⟩ | ⟨hb33, hF⟩ <;> (first | rw [hb33] | (conv => arg 7; rw [hb33]) | (conv => arg 9; rw [hb33]))
            · refine st1 ?_
              (first | have hF := e_next (e_some hF) | have hF := e_some hF)
              have hq : some _ = some _ := hF
              cases hq
              exact en1
            · refine st1 ?_
              rw [fl_thalweglaw01_unchanged_42, eg_thalweglaw01_unchanged_42, ag_thalweglaw01_unchanged_42]
              (conv => arg 1; whnf)
              refine st1 ?_
              rcases e_bif hF with ⟨hb34, hF⟩ | ⟨hb34, hF⟩ <;> (first | rw [hb34] | (conv => arg 7; rw [hb34]) | (conv => arg 9; rw [hb34]))
              · refine st1 ?_
                (first | have hF := e_next (e_some hF) | have hF := e_some hF)
                have hq : some _ = some _ := hF
                cases hq
                exact en1
              · refine st1 ?_
                rcases e_bif hF with ⟨hb35, hF⟩ | ⟨hb35, hF⟩ <;> (first | rw [hb35] | (conv => arg 7; rw [hb35]) | (conv => arg 9; rw [hb35]))
                · refine st1 ?_
                  (first | have hF := e_next (e_some hF) | have hF := e_some hF)
                  have hq : some _ = some _ := hF
                  cases hq
                  exact en1
                · refine st1 ?_
                  rw [fl_thalweglaw01_unchanged_42, eg_thalweglaw01_unchanged_42, ag_thalweglaw01_unchanged_42]
                  (conv => arg 1; whnf)
                  refine st1 ?_
                  rcases e_bif hF with ⟨hb36, hF⟩ | ⟨hb36, hF⟩ <;> (first | rw [hb36] | (conv => arg 7; rw [hb36]) | (conv => arg 9; rw [hb36]))
                  · refine st1 ?_
                    (first | have hF := e_next (e_some hF) | have hF := e_some hF)
                    have hq : some _ = some _ := hF
                    cases hq
                    exact en1
                  · refine st1 ?_
                    rcases e_bif hF with ⟨hb37, hF⟩ | ⟨hb37, hF⟩ <;> (first | rw [hb37] | (conv => arg 7; rw [hb37]) | (conv => arg 9; rw [hb37]))
                    · refine st1 ?_
                      (first | have hF := e_next (e_some hF) | have hF := e_some hF)
                      have hq : some _ = some _ := hF
                      cases hq
                      exact en1
                    · refine st1 ?_
                      rcases e_bif hF with ⟨hb38, hF⟩ | ⟨hb38, hF⟩ <;> (first | rw [hb38] | (conv => arg 7; rw [hb38]) | (conv => arg 9; rw [hb38]))
                      · refine st1 ?_
                        (first | have hF := e_next (e_some hF) | have hF := e_some hF)
                        have hq : some _ = some _ := hF
                        cases hq
                        exact en1
                      · refine st1 ?_
                        refine st_loopF (e_assoc hF) () [(0, _), (1, _), (17, _), (18, _)] ⟨sT, sS, by rfl, by rfl⟩ ?_
                        · as_aux_lemma =>
                          rintro n _ _ x hx2 hF
                          (conv => arg 7; whnf); (conv => arg 8; whnf); (conv => arg 9; whnf)
                          refine st1 ?_
                          rcases e_bif hF with ⟨hb43, hF⟩ | ⟨hb43, hF⟩ <;> (first | rw [hb43] | (conv => arg 7; rw [hb43]) | (conv => arg 9; rw [hb43]))
                          · refine st1 ?_
                            obtain ⟨_, h, hF⟩ := e_bind hF
                            (first | refine o_ia (enc := eTRateRow) (s := 2) h (fun _ => rfl) (by decide) ?_ | refine o_iaT (enc := eTRateRow) (s := 2) h (fun _ => rfl) (by decide) ?_)
                            intro _
                            refine st1 ?_
                            obtain ⟨_, h, hF⟩ := e_bind hF
                            (first | refine o_ia (enc := eTRateRow) (s := 2) h (fun _ => rfl) (by decide) ?_ | refine o_iaT (enc := eTRateRow) (s := 2) h (fun _ => rfl) (by decide) ?_)
                            intro _
                            refine st1 ?_
                            rw [fl_thalweglaw01_unchanged_93, eg_thalweglaw01_unchanged_93, ag_thalweglaw01_unchanged_93]
                            (conv => arg 1; whnf)
                            refine st1 ?_
                            rcases e_bif hF with ⟨hb44, hF⟩ | ⟨hb44, hF⟩ <;> (first | rw [hb44] | (conv => arg 7; rw [hb44]) | (conv => arg 9; rw [hb44]))
                            · refine st1 ?_
                              (first | have hF := e_next (e_some hF) | have hF := e_some hF)
                              (first | have hF := e_next (e_some hF) | have hF := e_some hF)
                              have hq : some _ = some _ := hF
                              cases hq
                              exact en1
                            · refine st1 ?_
                              exact k_loopF (e_some hF) hx2 () [(0, _), (1, _), (17, _), (18, _)] ⟨sT, sS, by rfl, by rfl⟩
                          · refine st1 ?_
                            (first | have hF := e_next (e_some hF) | have hF := e_some hF)
                            exact k_loopF (e_some hF) hx1 () [(0, _), (1, _)] ⟨sT, sS, by rfl, by rfl⟩
        · refine st1 ?_
          (first | have hF := e_next (e_some hF) | have hF := e_some hF)
          refine st_loopF (e_assoc hF) () [(0, _), (1, _)] ⟨sT, sS, by rfl, by rfl⟩ ?_
          · as_aux_lemma =>
            rintro n _ _ x hx1 hF
            (conv => arg 7; whnf); (conv => arg 8; whnf); (conv => arg 9; whnf)
            refine st1 ?_
            rcases e_bif hF with ⟨hb49, hF⟩ | ⟨hb49, hF⟩ <;> (first | rw [hb49] | (conv => arg 7; rw [hb49]) | (conv => arg 9; rw [hb49]))
            · refine st1 ?_
              obtain ⟨_, h, hF⟩ := e_bind hF
              (first | refine o_ia (enc := eTShoal) (s := 6) h (fun _ => rfl) (by decide) ?_ | refine o_iaT (enc := eTShoal) (s := 6) h (fun _ => rfl) (by decide) ?_)
              intro _
              refine st1 ?_
              obtain ⟨_, h, hF⟩ := e_bind hF
              (first | refine o_ia (enc := eTShoal) (s := 6) h (fun _ => rfl) (by decide) ?_ | refine o_iaT (enc := eTShoal) (s := 6) h (fun _ => rfl) (by decide) ?_)
              intro _
              refine st1 ?_
              rw [fl_thalweglaw01_unchanged_64, eg_thalweglaw01_unchanged_64, ag_thalweglaw01_unchanged_64]
              (conv => arg 1; whnf)
              refine st1 ?_
              rcases e_bif hF with ⟨hb50, hF⟩ | ⟨hb50, hF⟩ <;> (first | rw [hb50] | (conv => arg 7; rw [hb50]) | (conv => arg 9; rw [hb50]))
              · refine st1 ?_
                (first | have hF := e_next (e_some hF) | have hF := e_some hF)
                have hq : some _ = some _ := hF
                cases hq
                exact en1
              · refine st1 ?_
                exact k_loopF (e_some hF) hx1 () [(0, _), (1, _)] ⟨sT, sS, by rfl, by rfl⟩
            · refine st1 ?_
              (first | have hF := e_next (e_some hF) | have hF := e_some hF)
              have hq : some _ = some _ := hF
              cases hq
              exact en1


@[reducible] noncomputable def c_thalweglaw01_same : Con := conF F_thalweglaw01_same (fun x => match x with | (a0, a1) => [(V.sl (recs eTBounds (a0)) (a0).length), (V.sl (recs eTBounds (a1)) (a1).length)]) (fun r => (V.v (.bool (r))))
theorem fl_thalweglaw01_same_42 : flatOf Try.prog 9 42 = some [true, true] := by kernel_rfl
theorem eg_thalweglaw01_same_42 : Try.prog.eqGuardType Try.prog.depth 42 = false := by kernel_rfl
theorem ag_thalweglaw01_same_42 : aggOf Try.prog 42 = some true := by kernel_rfl
theorem h_thalweglaw01_same : Has Try.prog 34 c_thalweglaw01_same := by
  refine hasF ctx_nil mix Try.func34 rfl (by kernel_rfl) ?_
  rintro ⟨a0, a1⟩ r hF
  refine ⟨of_decide_eq_true rfl, ?_⟩
  refine st1 ?_
  rcases e_bif hF with ⟨hb1, hF⟩ | ⟨hb1, hF⟩ <;> (first | rw [hb1] | (conv => arg 7; rw [hb1]) | (conv => arg 9; rw [hb1]))
  · refine st1 ?_
    have hq : some _ = some _ := hF
    cases hq
    exact en1
  · refine st1 ?_
    refine st_loopF (e_assoc hF) () [] ⟨sT, sS, by rfl, by rfl⟩ ?_
    · as_aux_lemma =>
      rintro n _ _ x hx1 hF
      (conv => arg 7; whnf); (conv => arg 8; whnf); (conv => arg 9; whnf)
      refine st1 ?_
      rcases e_bif hF with ⟨hb6, hF⟩ | ⟨hb6, hF⟩ <;> (first | rw [hb6] | (conv => arg 7; rw [hb6]) | (conv => arg 9; rw [hb6]))
      · refine st1 ?_
        obtain ⟨_, h, hF⟩ := e_bind hF
        (first | refine o_ia (enc := eTBounds) (s := 2) h (fun _ => rfl) (by decide) ?_ | refine o_iaT (enc := eTBounds) (s := 2) h (fun _ => rfl) (by decide) ?_)
        intro _
        refine st1 ?_
        obtain ⟨_, h, hF⟩ := e_bind hF
        (first | refine o_ia (enc := eTBounds) (s := 2) h (fun _ => rfl) (by decide) ?_ | refine o_iaT (enc := eTBounds) (s := 2) h (fun _ => rfl) (by decide) ?_)
        intro _
        refine st1 ?_
        rw [fl_thalweglaw01_same_42, eg_thalweglaw01_same_42, ag_thalweglaw01_same_42]
        (conv => arg 1; whnf)
        refine st1 ?_
        rcases e_bif hF with ⟨hb7, hF⟩ | ⟨hb7, hF⟩ <;> (first | rw [hb7] | (conv => arg 7; rw [hb7]) | (conv => arg 9; rw [hb7]))
        · refine st1 ?_
          (first | have hF := e_next (e_some hF) | have hF := e_some hF)
          have hq : some _ = some _ := hF
          cases hq
          exact en1
        · refine st1 ?_
          exact k_loopF (e_some hF) hx1 () [] ⟨sT, sS, by rfl, by rfl⟩
      · refine st1 ?_
        (first | have hF := e_next (e_some hF) | have hF := e_some hF)
        have hq : some _ = some _ := hF
        cases hq
        exact en1


@[reducible] noncomputable def c_thalweglaw01_equal : Con := conF F_thalweglaw01_equal (fun x => match x with | (a0, a1) => [(V.sl (recs (eS eTBounds) (a0)) (a0).length), (V.sl (recs (eS eTBounds) (a1)) (a1).length)]) (fun r => (V.v (.bool (r))))
theorem h_thalweglaw01_equal : Has Try.prog 14 c_thalweglaw01_equal := by
  refine hasF (ctx_cons h_thalweglaw01_same ctx_nil) mix Try.func14 rfl (by kernel_rfl) ?_
  rintro ⟨a0, a1⟩ r hF
  refine ⟨of_decide_eq_true rfl, ?_⟩
  refine st1 ?_
  rcases e_bif hF with ⟨hb1, hF⟩ | ⟨hb1, hF⟩ <;> (first | rw [hb1] | (conv => arg 7; rw [hb1]) | (conv => arg 9; rw [hb1]))
  · refine st1 ?_
    have hq : some _ = some _ := hF
    cases hq
    exact en1
  · refine st1 ?_
    refine st_loopF (e_assoc hF) () [] ⟨sT, sS, by rfl, by rfl⟩ ?_
    · as_aux_lemma =>
      rintro n _ _ x hx1 hF
      (conv => arg 7; whnf); (conv => arg 8; whnf); (conv => arg 9; whnf)
      refine st1 ?_
      rcases e_bif hF with ⟨hb6, hF⟩ | ⟨hb6, hF⟩ <;> (first | rw [hb6] | (conv => arg 7; rw [hb6]) | (conv => arg 9; rw [hb6]))
      · refine st1 ?_
        obtain ⟨_, h, hF⟩ := e_bind hF
        (first | refine o_ia (enc := (eS eTBounds)) (s := 1) h (fun _ => rfl) (by decide) ?_ | refine o_iaT (enc := (eS eTBounds)) (s := 1) h (fun _ => rfl) (by decide) ?_)
        intro _
        refine st1 ?_
        obtain ⟨_, h, hF⟩ := e_bind hF
        (first | refine o_ia (enc := (eS eTBounds)) (s := 1) h (fun _ => rfl) (by decide) ?_ | refine o_iaT (enc := (eS eTBounds)) (s := 1) h (fun _ => rfl) (by decide) ?_)
        intro _
        refine st1 ?_
        obtain ⟨_, h, hF⟩ := e_bind hF
        (first | refine g_call h lv1 ?_ | refine g_callT h lv1 ?_)
        (conv => arg 1; whnf)
        refine st1 ?_
        rcases e_bif hF with ⟨hb7, hF⟩ | ⟨hb7, hF⟩ <;> (first | rw [hb7] | (conv => arg 7; rw [hb7]) | (conv => arg 9; rw [hb7]))
        · refine st1 ?_
          (first | have hF := e_next (e_some hF) | have hF := e_some hF)
          have hq : some _ = some _ := hF
          cases hq
          exact en1
        · refine st1 ?_
          exact k_loopF (e_some hF) hx1 () [] ⟨sT, sS, by rfl, by rfl⟩
      · refine st1 ?_
        (first | have hF := e_next (e_some hF) | have hF := e_some hF)
        have hq : some _ = some _ := hF
        cases hq
        exact en1


@[reducible] noncomputable def c_thalweglaw01_RiverFlows : Con := conF F_thalweglaw01_RiverFlows (fun x => match x with | (a0) => [(V.agg (eTthalweglaw01_Forecast a0))]) (fun r => (V.v (.bool (r))))
theorem fl_thalweglaw01_RiverFlows_42 : flatOf Try.prog 9 42 = some [true, true] := by kernel_rfl
theorem eg_thalweglaw01_RiverFlows_42 : Try.prog.eqGuardType Try.prog.depth 42 = false := by kernel_rfl
theorem ag_thalweglaw01_RiverFlows_42 : aggOf Try.prog 42 = some true := by kernel_rfl
theorem h_thalweglaw01_RiverFlows : Has Try.prog 3 c_thalweglaw01_RiverFlows := by
  refine hasF (ctx_cons h_thalwegref01_Level (ctx_cons h_thalwegref01_Flows (ctx_cons h_thalwegref01_Start (ctx_cons h_thalweglaw01_equal (ctx_cons h_thalweglaw01_unchanged (ctx_cons h_river_Levels (ctx_cons h_river_Flows (ctx_cons h_thalweglaw01_forecast (ctx_cons h_thalweglaw01_copied (ctx_cons h_thalweglaw01_known (ctx_cons h_thalweglaw01_large ctx_nil))))))))))) mix Try.func3 rfl (by kernel_rfl) ?_
  rintro a0 r hF
  refine ⟨of_decide_eq_true rfl, ?_⟩
  refine st1 ?_
  obtain ⟨_, h, hF⟩ := e_bind hF
  (first | refine g_call h lv1 ?_ | refine g_callT h lv1 ?_)
  (conv => arg 1; whnf)
  refine st1 ?_
  rcases e_bif hF with ⟨hb1, hF⟩ | ⟨hb1, hF⟩ <;> (first | rw [hb1] | (conv => arg 7; rw [hb1]) | (conv => arg 9; rw [hb1]))
  · refine st1 ?_
    obtain ⟨_, h, hF⟩ := e_bind hF
    (first | refine g_call h lv1 ?_ | refine g_callT h lv1 ?_)
    (conv => arg 1; whnf)
    refine st1 ?_
    have hq : some _ = some _ := hF
    cases hq
    exact en1
  · refine st1 ?_
    obtain ⟨_, h, hF⟩ := e_bind hF
    (first | refine g_call h lv1 ?_ | refine g_callT h lv1 ?_)
    (conv => arg 1; whnf)
    refine st1 ?_
    obtain ⟨_, h, hF⟩ := e_bind hF
    (first | refine g_call h lv1 ?_ | refine g_callT h lv1 ?_)
    (conv => arg 1; whnf)
    refine st1 ?_
    obtain ⟨_, h, hF⟩ := e_bind hF
    (first | refine g_call h lv1 ?_ | refine g_callT h lv1 ?_)
    (conv => arg 1; whnf)
    refine st1 ?_
    obtain ⟨_, h, hF⟩ := e_bind hF
    (first | refine g_call h lv1 ?_ | refine g_callT h lv1 ?_)
    (conv => arg 1; whnf)
    refine st1 ?_
    obtain ⟨_, h, hF⟩ := e_bind hF
    (first | refine g_call h lv1 ?_ | refine g_callT h lv1 ?_)
    (conv => arg 1; whnf)
    refine st1 ?_
    rcases e_bif hF with ⟨hb2, hF⟩ | ⟨hb2, hF⟩ <;> (first | rw [hb2] | (conv => arg 7; rw [hb2]) | (conv => arg 9; rw [hb2]))
    · refine st1 ?_
      have hq : some _ = some _ := hF
      cases hq
      exact en1
    · refine st1 ?_
      obtain ⟨_, h, hF⟩ := e_bind hF
      (first | refine g_call h lv1 ?_ | refine g_callT h lv1 ?_)
      (conv => arg 1; whnf)
      refine st1 ?_
      rcases e_bif hF with ⟨hb3, hF⟩ | ⟨hb3, hF⟩ <;> (first | rw [hb3] | (conv => arg 7; rw [hb3]) | (conv => arg 9; rw [hb3]))
      · refine st1 ?_
        have hq : some _ = some _ := hF
        cases hq
        exact en1
      · refine st1 ?_
        obtain ⟨_, h, hF⟩ := e_bind hF
        (first | refine g_call h lv1 ?_ | refine g_callT h lv1 ?_)
        (conv => arg 1; whnf)
        refine st1 ?_
        rcases e_bif hF with ⟨hb4, hF⟩ | ⟨hb4, hF⟩ <;> (first | rw [hb4] | (conv => arg 7; rw [hb4]) | (conv => arg 9; rw [hb4]))
        · refine st1 ?_
          rcases e_bif hF with ⟨hb5, hF⟩ | ⟨hb5, hF⟩ <;> (first | rw [hb5] | (conv => arg 7; rw [hb5]) | (conv => arg 9; rw [hb5]))
          · refine st1 ?_
            rcases e_bif hF with ⟨hb6, hF⟩ | ⟨hb6, hF⟩ <;> (first | rw [hb6] | (conv => arg 7; rw [hb6]) | (conv => arg 9; rw [hb6]))
            · refine st1 ?_
              rcases e_bif hF with ⟨hb7, hF⟩ | ⟨hb7, hF⟩ <;> (first | rw [hb7] | (conv => arg 7; rw [hb7]) | (conv => arg 9; rw [hb7]))
              · refine st1 ?_
                obtain ⟨_, h, hF⟩ := e_bind hF
                (first | refine g_call h lv1 ?_ | refine g_callT h lv1 ?_)
                (conv => arg 1; whnf)
                refine st1 ?_
                have hq : some _ = some _ := hF
                cases hq
                exact en1
              · refine st1 ?_
                have hq : some _ = some _ := hF
                cases hq
                exact en1
            · refine st1 ?_
              have hq : some _ = some _ := hF
              cases hq
              exact en1
          · refine st1 ?_
            have hq : some _ = some _ := hF
            cases hq
            exact en1
        · refine st1 ?_
          obtain ⟨_, h, hF⟩ := e_bind hF
          (first | refine g_call h lv1 ?_ | refine g_callT h lv1 ?_)
          (conv => arg 1; whnf)
          refine st1 ?_
          rcases e_bif hF with ⟨hb8, hF⟩ | ⟨hb8, hF⟩ <;> (first | rw [hb8] | (conv => arg 7; rw [hb8]) | (conv => arg 9; rw [hb8]))
          · refine st1 ?_
            have hq : some _ = some _ := hF
            cases hq
            exact en1
          · refine st1 ?_
            rcases e_bif hF with ⟨hb9, hF⟩ | ⟨hb9, hF⟩ <;> (first | rw [hb9] | (conv => arg 7; rw [hb9]) | (conv => arg 9; rw [hb9]))
            · refine st1 ?_
              have hq : some _ = some _ := hF
              cases hq
              exact en1
            · refine st1 ?_
              obtain ⟨_, h, hF⟩ := e_bind hF
              (first | refine g_call h lv1 ?_ | refine g_callT h lv1 ?_)
              (conv => arg 1; whnf)
              refine st1 ?_
              rcases e_bif hF with ⟨hb10, hF⟩ | ⟨hb10, hF⟩ <;> (first | rw [hb10] | (conv => arg 7; rw [hb10]) | (conv => arg 9; rw [hb10]))
              · refine st1 ?_
                have hq : some _ = some _ := hF
                cases hq
                exact en1
              · refine st1 ?_
                rcases e_bif hF with ⟨hb11, hF⟩ | ⟨hb11, hF⟩ <;> (first | rw [hb11] | (conv => arg 7; rw [hb11]) | (conv => arg 9; rw [hb11]))
                · refine st1 ?_
                  have hq : some _ = some _ := hF
                  cases hq
                  exact en1
                · refine st1 ?_
                  refine st_loopF (e_assoc hF) () [(0, _)] ⟨sT, sS, by rfl, by rfl⟩ ?_
                  · as_aux_lemma =>
                    rintro n _ _ x hx1 hF
                    (conv => arg 7; whnf); (conv => arg 8; whnf); (conv => arg 9; whnf)
                    refine st1 ?_
                    rcases e_bif hF with ⟨hb28, hF⟩ | ⟨hb28, hF⟩ <;> (first | rw [hb28] | (conv => arg 7; rw [hb28]) | (conv => arg 9; rw [hb28]))
                    · refine st1 ?_
                      obtain ⟨_, h, hF⟩ := e_bind hF
                      (first | refine o_ia (enc := (eS eTBounds)) (s := 1) h (fun _ => rfl) (by decide) ?_ | refine o_iaT (enc := (eS eTBounds)) (s := 1) h (fun _ => rfl) (by decide) ?_)
                      intro _
                      refine st1 ?_
                      obtain ⟨_, h, hF⟩ := e_bind hF
                      (first | refine o_ia (enc := (eS eTBounds)) (s := 1) h (fun _ => rfl) (by decide) ?_ | refine o_iaT (enc := (eS eTBounds)) (s := 1) h (fun _ => rfl) (by decide) ?_)
                      intro _
                      refine st1 ?_
                      rcases e_bif hF with ⟨hb29, hF⟩ | ⟨hb29, hF⟩ <;> (first | rw [hb29] | (conv => arg 7; rw [hb29]) | (conv => arg 9; rw [hb29]))
                      · refine st1 ?_
                        (first | have hF := e_next (e_some hF) | have hF := e_some hF)
                        have hq : some _ = some _ := hF
                        cases hq
                        exact en1
                      · refine st1 ?_
                        refine st_loopF (e_assoc hF) () [(0, _)] ⟨sT, sS, by rfl, by rfl⟩ ?_
                        · as_aux_lemma =>
                          rintro n _ _ x hx2 hF
                          (conv => arg 7; whnf); (conv => arg 8; whnf); (conv => arg 9; whnf)
                          refine st1 ?_
                          obtain ⟨_, h, hF⟩ := e_bind hF
                          (first | refine o_ia (enc := (eS eTBounds)) (s := 1) h (fun _ => rfl) (by decide) ?_ | refine o_iaT (enc := (eS eTBounds)) (s := 1) h (fun _ => rfl) (by decide) ?_)
                          intro _
                          refine st1 ?_
                          rcases e_bif hF with ⟨hb34, hF⟩ | ⟨hb34, hF⟩ <;> (first | rw [hb34] | (conv => arg 7; rw [hb34]) | (conv => arg 9; rw [hb34]))
                          · refine st1 ?_
                            obtain ⟨_, h, hF⟩ := e_bind hF
                            (first | refine o_ia (enc := (eS eTBounds)) (s := 1) h (fun _ => rfl) (by decide) ?_ | refine o_iaT (enc := (eS eTBounds)) (s := 1) h (fun _ => rfl) (by decide) ?_)
                            intro _
                            refine st1 ?_
                            obtain ⟨_, h, hF⟩ := e_bind hF
                            (first | refine o_ia (enc := eTBounds) (s := 2) h (fun _ => rfl) (by decide) ?_ | refine o_iaT (enc := eTBounds) (s := 2) h (fun _ => rfl) (by decide) ?_)
                            intro _
                            refine st1 ?_
                            obtain ⟨_, h, hF⟩ := e_bind hF
                            (first | refine o_ia (enc := eTReach) (s := 9) h (fun _ => rfl) (by decide) ?_ | refine o_iaT (enc := eTReach) (s := 9) h (fun _ => rfl) (by decide) ?_)
                            intro _
                            refine st1 ?_
                            obtain ⟨_, h, hF⟩ := e_bind hF
                            (first | refine o_ia (enc := (eS eTBounds)) (s := 1) h (fun _ => rfl) (by decide) ?_ | refine o_iaT (enc := (eS eTBounds)) (s := 1) h (fun _ => rfl) (by decide) ?_)
                            intro _
                            refine st1 ?_
                            obtain ⟨_, h, hF⟩ := e_bind hF
                            (first | refine o_ia (enc := eTBounds) (s := 2) h (fun _ => rfl) (by decide) ?_ | refine o_iaT (enc := eTBounds) (s := 2) h (fun _ => rfl) (by decide) ?_)
                            intro _
                            refine st1 ?_
                            obtain ⟨_, h, hF⟩ := e_bind hF
                            (first | refine g_call h lv1 ?_ | refine g_callT h lv1 ?_)
                            (conv => arg 1; whnf)
                            refine st1 ?_
                            rw [fl_thalweglaw01_RiverFlows_42, eg_thalweglaw01_RiverFlows_42, ag_thalweglaw01_RiverFlows_42]
                            (conv => arg 1; whnf)
                            refine st1 ?_
                            rcases e_bif hF with ⟨hb35, hF⟩ | ⟨hb35, hF⟩ <;> (first | rw [hb35] | (conv => arg 7; rw [hb35]) | (conv => arg 9; rw [hb35]))
                            · refine st1 ?_
                              (first | have hF := e_next (e_some hF) | have hF := e_some hF)
                              (first | have hF := e_next (e_some hF) | have hF := e_some hF)
                              have hq : some _ = some _ := hF
                              cases hq
                              exact en1
                            · refine st1 ?_
                              exact k_loopF (e_some hF) hx2 () [(0, _)] ⟨sT, sS, by rfl, by rfl⟩
                          · refine st1 ?_
                            (first | have hF := e_next (e_some hF) | have hF := e_some hF)
                            exact k_loopF (e_some hF) hx1 () [(0, _)] ⟨sT, sS, by rfl, by rfl⟩
                    · refine st1 ?_
                      (first | have hF := e_next (e_some hF) | have hF := e_some hF)
                      obtain ⟨_, h, hF⟩ := e_bind hF
                      (first | refine g_call h lv1 ?_ | refine g_callT h lv1 ?_)
                      (conv => arg 1; whnf)
                      refine st1 ?_
                      have hq : some _ = some _ := hF
                      cases hq
                      exact en1


@[reducible] noncomputable def c_thalweglaw01_valid : Con := conF F_thalweglaw01_valid (fun x => match x with | (a0) => [(V.agg (eTthalweglaw01_Forecast a0))]) (fun r => (V.v (.bool (r))))
theorem h_thalweglaw01_valid : Has Try.prog 18 c_thalweglaw01_valid := by
  refine hasF (ctx_cons h_river_Check (ctx_cons h_thalweglaw01_copied (ctx_cons h_thalweglaw01_large ctx_nil))) mix Try.func18 rfl (by kernel_rfl) ?_
  rintro a0 r hF
  refine ⟨of_decide_eq_true rfl, ?_⟩
  refine st1 ?_
  obtain ⟨_, h, hF⟩ := e_bind hF
  (first | refine g_call h lv1 ?_ | refine g_callT h lv1 ?_)
  (conv => arg 1; whnf)
  refine st1 ?_
  rcases e_bif hF with ⟨hb1, hF⟩ | ⟨hb1, hF⟩ <;> (first | rw [hb1] | (conv => arg 7; rw [hb1]) | (conv => arg 9; rw [hb1]))
  · refine st1 ?_
    have hq : some _ = some _ := hF
    cases hq
    exact en1
  · refine st1 ?_
    rcases e_bif hF with ⟨hb2, hF⟩ | ⟨hb2, hF⟩ <;> (first | rw [hb2] | (conv => arg 7; rw [hb2]) | (conv => arg 9; rw [hb2]))
    · refine st1 ?_
      have hq : some _ = some _ := hF
      cases hq
      exact en1
    · refine st1 ?_
      rcases e_bif hF with ⟨hb3, hF⟩ | ⟨hb3, hF⟩ <;> (first | rw [hb3] | (conv => arg 7; rw [hb3]) | (conv => arg 9; rw [hb3]))
      · refine st1 ?_
        have hq : some _ = some _ := hF
        cases hq
        exact en1
      · refine st1 ?_
        obtain ⟨_, h, hF⟩ := e_bind hF
        (first | refine o_ia (enc := (eS eTBounds)) (s := 1) h (fun _ => rfl) (by decide) ?_ | refine o_iaT (enc := (eS eTBounds)) (s := 1) h (fun _ => rfl) (by decide) ?_)
        intro _
        refine st1 ?_
        rcases e_bif hF with ⟨hb4, hF⟩ | ⟨hb4, hF⟩ <;> (first | rw [hb4] | (conv => arg 7; rw [hb4]) | (conv => arg 9; rw [hb4]))
        · refine st1 ?_
          have hq : some _ = some _ := hF
          cases hq
          exact en1
        · refine st1 ?_
          obtain ⟨_, h, hF⟩ := e_bind hF
          (first | refine g_call h lv1 ?_ | refine g_callT h lv1 ?_)
          (conv => arg 1; whnf)
          refine st1 ?_
          obtain ⟨_, h, hF⟩ := e_bind hF
          (first | refine g_call h lv1 ?_ | refine g_callT h lv1 ?_)
          (conv => arg 1; whnf)
          refine st1 ?_
          rcases e_bif hF with ⟨hb5, hF⟩ | ⟨hb5, hF⟩ <;> (first | rw [hb5] | (conv => arg 7; rw [hb5]) | (conv => arg 9; rw [hb5]))
          · refine st1 ?_
            have hq : some _ = some _ := hF
            cases hq
            exact en1
          · refine st1 ?_
            refine st_loopF (e_assoc hF) () [(0, _)] ⟨sT, sS, by rfl, by rfl⟩ ?_
            · as_aux_lemma =>
              rintro n _ _ x hx1 hF
              (conv => arg 7; whnf); (conv => arg 8; whnf); (conv => arg 9; whnf)
              refine st1 ?_
              rcases e_bif hF with ⟨hb34, hF⟩ | ⟨hb34, hF⟩ <;> (first | rw [hb34] | (conv => arg 7; rw [hb34]) | (conv => arg 9; rw [hb34]))
              · refine st1 ?_
                obtain ⟨_, h, hF⟩ := e_bind hF
                (first | refine o_ia (enc := (eS eTBounds)) (s := 1) h (fun _ => rfl) (by decide) ?_ | refine o_iaT (enc := (eS eTBounds)) (s := 1) h (fun _ => rfl) (by decide) ?_)
                intro _
                refine st1 ?_
                obtain ⟨_, h, hF⟩ := e_bind hF
                (first | refine o_ia (enc := (eS eTBounds)) (s := 1) h (fun _ => rfl) (by decide) ?_ | refine o_iaT (enc := (eS eTBounds)) (s := 1) h (fun _ => rfl) (by decide) ?_)
                intro _
                refine st1 ?_
                rcases e_bif hF with ⟨hb35, hF⟩ | ⟨hb35, hF⟩ <;> (first | rw [hb35] | (conv => arg 7; rw [hb35]) | (conv => arg 9; rw [hb35]))
                · refine st1 ?_
                  (first | have hF := e_next (e_some hF) | have hF := e_some hF)
                  have hq : some _ = some _ := hF
                  cases hq
                  exact en1
                · refine st1 ?_
                  refine st_loopF (e_assoc hF) () [(0, _)] ⟨sT, sS, by rfl, by rfl⟩ ?_
                  · as_aux_lemma =>
                    rintro n _ _ x hx2 hF
                    (conv => arg 7; whnf); (conv => arg 8; whnf); (conv => arg 9; whnf)
                    refine st1 ?_
                    obtain ⟨_, h, hF⟩ := e_bind hF
                    (first | refine o_ia (enc := (eS eTBounds)) (s := 1) h (fun _ => rfl) (by decide) ?_ | refine o_iaT (enc := (eS eTBounds)) (s := 1) h (fun _ => rfl) (by decide) ?_)
                    intro _
                    refine st1 ?_
                    rcases e_bif hF with ⟨hb44, hF⟩ | ⟨hb44, hF⟩ <;> (first | rw [hb44] | (conv => arg 7; rw [hb44]) | (conv => arg 9; rw [hb44]))
                    · refine st1 ?_
                      obtain ⟨_, h, hF⟩ := e_bind hF
                      (first | refine o_ia (enc := (eS eTBounds)) (s := 1) h (fun _ => rfl) (by decide) ?_ | refine o_iaT (enc := (eS eTBounds)) (s := 1) h (fun _ => rfl) (by decide) ?_)
                      intro _
                      refine st1 ?_
                      obtain ⟨_, h, hF⟩ := e_bind hF
                      (first | refine o_ia (enc := eTBounds) (s := 2) h (fun _ => rfl) (by decide) ?_ | refine o_iaT (enc := eTBounds) (s := 2) h (fun _ => rfl) (by decide) ?_)
                      intro _
                      refine st1 ?_
                      rcases e_bif hF with ⟨hb45, hF⟩ | ⟨hb45, hF⟩ <;> (first | rw [hb45] | (conv => arg 7; rw [hb45]) | (conv => arg 9; rw [hb45]))
                      · refine st1 ?_
                        (first | have hF := e_next (e_some hF) | have hF := e_some hF)
                        (first | have hF := e_next (e_some hF) | have hF := e_some hF)
                        have hq : some _ = some _ := hF
                        cases hq
                        exact en1
                      · refine st1 ?_
                        rcases e_bif hF with ⟨hb46, hF⟩ | ⟨hb46, hF⟩ <;> (first | rw [hb46] | (conv => arg 7; rw [hb46]) | (conv => arg 9; rw [hb46]))
                        · refine st1 ?_
                          (first | have hF := e_next (e_some hF) | have hF := e_some hF)
                          (first | have hF := e_next (e_some hF) | have hF := e_some hF)
                          have hq : some _ = some _ := hF
                          cases hq
                          exact en1
                        · refine st1 ?_
                          rcases e_bif hF with ⟨hb47, hF⟩ | ⟨hb47, hF⟩ <;> (first | rw [hb47] | (conv => arg 7; rw [hb47]) | (conv => arg 9; rw [hb47]))
                          · refine st1 ?_
                            (first | have hF := e_next (e_some hF) | have hF := e_some hF)
                            (first | have hF := e_next (e_some hF) | have hF := e_some hF)
                            have hq : some _ = some _ := hF
                            cases hq
                            exact en1
                          · refine st1 ?_
                            exact k_loopF (e_some hF) hx2 () [(0, _)] ⟨sT, sS, by rfl, by rfl⟩
                    · refine st1 ?_
                      (first | have hF := e_next (e_some hF) | have hF := e_some hF)
                      exact k_loopF (e_some hF) hx1 () [(0, _)] ⟨sT, sS, by rfl, by rfl⟩
              · refine st1 ?_
                (first | have hF := e_next (e_some hF) | have hF := e_some hF)
                obtain ⟨_, h, hF⟩ := e_bind hF
                (first | refine o_ia (enc := (eS eTBounds)) (s := 1) h (fun _ => rfl) (by decide) ?_ | refine o_iaT (enc := (eS eTBounds)) (s := 1) h (fun _ => rfl) (by decide) ?_)
                intro _
                refine st1 ?_
                have hq : some _ = some _ := hF
                cases hq
                exact en1


@[reducible] noncomputable def c_thalweglaw01_pick : Con := conF F_thalweglaw01_pick (fun x => match x with | (a0, a1) => [(V.agg (eTBounds a0)), (V.v (.int .u8 (a1)))]) (fun r => (V.v (.int .i64 (r))))
theorem h_thalweglaw01_pick : Has Try.prog 23 c_thalweglaw01_pick := by
  refine hasF ctx_nil mix Try.func23 rfl (by kernel_rfl) ?_
  rintro ⟨a0, a1⟩ r hF
  refine ⟨of_decide_eq_true rfl, ?_⟩
  refine st1 ?_
  have hq : some _ = some _ := hF
  cases hq
  exact en1


@[reducible] noncomputable def c_thalweglaw01_part : Con := conF F_thalweglaw01_part (fun x => match x with | (a0, a1) => [(V.sl (recs (eI .u8) (a0)) (a0).length), (V.v (.int .i64 (a1)))]) (fun r => (V.v (.int .u8 (r))))
theorem h_thalweglaw01_part : Has Try.prog 24 c_thalweglaw01_part := by
  refine hasF ctx_nil mix Try.func24 rfl (by kernel_rfl) ?_
  rintro ⟨a0, a1⟩ r hF
  refine ⟨of_decide_eq_true rfl, ?_⟩
  refine st1 ?_
  rcases e_bif hF with ⟨hb1, hF⟩ | ⟨hb1, hF⟩ <;> (first | rw [hb1] | (conv => arg 7; rw [hb1]) | (conv => arg 9; rw [hb1]))
  · refine st1 ?_
    have hq : some _ = some _ := hF
    cases hq
    exact en1
  · refine st1 ?_
    obtain ⟨_, h, hF⟩ := e_bind hF
    (first | refine go_req (nz_ne h) ?_ | refine goT_req (nz_ne h) ?_)
    (conv => arg 1; whnf)
    refine st1 ?_
    obtain ⟨_, h, hF⟩ := e_bind hF
    (first | refine o_ia (enc := (eI .u8)) (s := 1) h (fun _ => rfl) (by decide) ?_ | refine o_iaT (enc := (eI .u8)) (s := 1) h (fun _ => rfl) (by decide) ?_)
    intro _
    refine st1 ?_
    have hq : some _ = some _ := hF
    cases hq
    exact en1


@[reducible] noncomputable def c_thalweglaw01_truly : Con := conF F_thalweglaw01_truly (fun x => match x with | (a0, a1, a2, a3) => [(V.agg (eTthalweglaw01_Forecast a0)), (V.agg (eTthalweglaw01_Truth a1)), (V.v (.int .i64 (a2))), (V.v (.int .i64 (a3)))]) (fun r => (V.v (.int .i64 (r))))
theorem h_thalweglaw01_truly : Has Try.prog 19 c_thalweglaw01_truly := by
  refine hasF (ctx_cons h_thalweglaw01_part (ctx_cons h_thalweglaw01_pick ctx_nil)) mix Try.func19 rfl (by kernel_rfl) ?_
  rintro ⟨a0, a1, a2, a3⟩ r hF
  refine ⟨of_decide_eq_true rfl, ?_⟩
  refine st1 ?_
  refine st_loopF (e_assoc hF) () [(0, _), (1, _)] ⟨sT, sS, by rfl, by rfl⟩ ?_
  · as_aux_lemma =>
    rintro n ⟨_, _, _⟩ _ x hx1 hF
    (conv => arg 7; whnf); (conv => arg 8; whnf); (conv => arg 9; whnf)
    refine st1 ?_
    rcases e_bif hF with ⟨hb5, hF⟩ | ⟨hb5, hF⟩ <;> (first | rw [hb5] | (conv => arg 7; rw [hb5]) | (conv => arg 9; rw [hb5]))
    · refine st1 ?_
      obtain ⟨_, h, hF⟩ := e_bind hF
      (first | refine o_ia (enc := eTReach) (s := 9) h (fun _ => rfl) (by decide) ?_ | refine o_iaT (enc := eTReach) (s := 9) h (fun _ => rfl) (by decide) ?_)
      intro _
      refine st1 ?_
      obtain ⟨_, h, hF⟩ := e_bind hF
      (first | refine g_call h lv1 ?_ | refine g_callT h lv1 ?_)
      (conv => arg 1; whnf)
      refine st1 ?_
      obtain ⟨_, h, hF⟩ := e_bind hF
      (first | refine g_call h lv1 ?_ | refine g_callT h lv1 ?_)
      (conv => arg 1; whnf)
      refine st1 ?_
      (first | have hF := e_next (e_some hF) | have hF := e_some hF)
      have hq : some _ = some _ := hF
      cases hq
      exact en1
    · refine st1 ?_
      obtain ⟨_, h, hF⟩ := e_bind hF
      (first | refine o_ia (enc := (eS eTBounds)) (s := 1) h (fun _ => rfl) (by decide) ?_ | refine o_iaT (enc := (eS eTBounds)) (s := 1) h (fun _ => rfl) (by decide) ?_)
      intro _
      refine st1 ?_
      obtain ⟨_, h, hF⟩ := e_bind hF
      (first | refine o_ia (enc := eTBounds) (s := 2) h (fun _ => rfl) (by decide) ?_ | refine o_iaT (enc := eTBounds) (s := 2) h (fun _ => rfl) (by decide) ?_)
      intro _
      refine st1 ?_
      obtain ⟨_, h, hF⟩ := e_bind hF
      (first | refine g_call h lv1 ?_ | refine g_callT h lv1 ?_)
      (conv => arg 1; whnf)
      refine st1 ?_
      obtain ⟨_, h, hF⟩ := e_bind hF
      (first | refine g_call h lv1 ?_ | refine g_callT h lv1 ?_)
      (conv => arg 1; whnf)
      refine st1 ?_
      rcases e_bif hF with ⟨hb6, hF⟩ | ⟨hb6, hF⟩ <;> (first | rw [hb6] | (conv => arg 7; rw [hb6]) | (conv => arg 9; rw [hb6]))
      · refine st1 ?_
        (first | have hF := e_next (e_some hF) | have hF := e_some hF)
        have hq : some _ = some _ := hF
        cases hq
        exact en1
      · refine st1 ?_
        obtain ⟨_, h, hF⟩ := e_bind hF
        (first | refine o_ia (enc := eTReach) (s := 9) h (fun _ => rfl) (by decide) ?_ | refine o_iaT (enc := eTReach) (s := 9) h (fun _ => rfl) (by decide) ?_)
        intro _
        refine st1 ?_
        exact k_loopF (e_some hF) hx1 () [(0, _), (1, _)] ⟨sT, sS, by rfl, by rfl⟩


@[reducible] noncomputable def c_thalweglaw01_in : Con := conF F_thalweglaw01_in (fun x => match x with | (a0, a1) => [(V.agg (eTBounds a0)), (V.v (.int .i64 (a1)))]) (fun r => (V.v (.bool (r))))
theorem h_thalweglaw01_in : Has Try.prog 21 c_thalweglaw01_in := by
  refine hasF ctx_nil mix Try.func21 rfl (by kernel_rfl) ?_
  rintro ⟨a0, a1⟩ r hF
  refine ⟨of_decide_eq_true rfl, ?_⟩
  refine st1 ?_
  rcases e_bif hF with ⟨hb1, hF⟩ | ⟨hb1, hF⟩ <;> (first | rw [hb1] | (conv => arg 7; rw [hb1]) | (conv => arg 9; rw [hb1]))
  · refine st1 ?_
    have hq : some _ = some _ := hF
    cases hq
    exact en1
  · refine st1 ?_
    have hq : some _ = some _ := hF
    cases hq
    exact en1


end Go.Ev
