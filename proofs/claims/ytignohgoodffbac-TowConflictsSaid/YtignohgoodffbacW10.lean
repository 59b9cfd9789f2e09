/- A part of the proof of TowConflicts. -/
import Derived.Test.YtignohgoodffbacW9
/- The functions do what is said. -/
set_option linter.unusedVariables false
set_option linter.unusedSimpArgs false
namespace Go.Ev
open Go.Proofs
set_option maxHeartbeats 8000000
set_option maxRecDepth 100000
@[reducible] noncomputable def c_thalweglaw03_large : Con := conF F_thalweglaw03_large (fun x => match x with | (a0) => [(V.agg (eTthalweglaw03_Traffic a0))]) (fun r => (V.v (.bool (r))))
theorem h_thalweglaw03_large : Has Try.prog 4 c_thalweglaw03_large := by
  refine hasF ctx_nil mix Try.func4 rfl (by kernel_rfl) ?_
  rintro a0 r hF
  refine ⟨of_decide_eq_true rfl, ?_⟩
  refine st1 ?_
  (first | refine st_loopF (e_assoc hF) () [(0, _)] ⟨sT, sS, by rfl, by rfl⟩ ?_ | ((conv => arg 7; try simp only [List.size_toArray, List.length_cons, List.length_nil, Nat.reduceAdd, Nat.zero_add]); (conv => arg 8; try simp only [List.size_toArray, List.length_cons, List.length_nil, Nat.reduceAdd, Nat.zero_add]); (conv => arg 9; try simp only [List.size_toArray, List.length_cons, List.length_nil, Nat.reduceAdd, Nat.zero_add]); refine st_loopF (e_assoc hF) () [(0, 0)] ⟨sT, sS, by rfl, by rfl⟩ ?_))
  · as_aux_lemma =>
    rintro n _ _ x hx1 hF
    (conv => arg 7; whnf); (conv => arg 8; whnf); (conv => arg 9; whnf)
    refine st1 ?_
    rcases e_bif hF with ⟨hb5, hF⟩ | ⟨hb5, hF⟩ <;> (first | rw [hb5] | (conv => arg 7; rw [hb5]) | (conv => arg 9; rw [hb5]))
    · refine st1 ?_
      obtain ⟨_, h, hF⟩ := e_bind hF
      (first | refine o_ia (enc := eTVoyage) (s := 5) h (fun _ => rfl) (by decide) ?_ | refine o_iaT (enc := eTVoyage) (s := 5) h (fun _ => rfl) (by decide) ?_)
      intro _
      refine st1 ?_
      rcases e_bif hF with ⟨hb6, hF⟩ | ⟨hb6, hF⟩ <;> (first | rw [hb6] | (conv => arg 7; rw [hb6]) | (conv => arg 9; rw [hb6]))
      · refine st1 ?_
        (first | have hF := e_next (e_some hF) | have hF := e_some hF)
        have hq : some _ = some _ := hF
        cases hq
        exact en1
      · refine st1 ?_
        (first | exact k_loopF (e_some hF) hx1 () [(0, _)] ⟨sT, sS, by rfl, by rfl⟩ | exact k_loopF (e_some hF) hx1 () [(0, 0)] ⟨sT, sS, by rfl, by rfl⟩)
    · refine st1 ?_
      (first | have hF := e_next (e_some hF) | have hF := e_some hF)
      rcases e_bif hF with ⟨hb7, hF⟩ | ⟨hb7, hF⟩ <;> (first | rw [hb7] | (conv => arg 7; rw [hb7]) | (conv => arg 9; rw [hb7]))
      · refine st1 ?_
        have hq : some _ = some _ := hF
        cases hq
        exact en1
      · refine st1 ?_
        have hq : some _ = some _ := hF
        cases hq
        exact en1


@[reducible] noncomputable def c_thalweglaw03_copied : Con := conF F_thalweglaw03_copied (fun x => match x with | (a0) => [(V.agg (eTVoyage a0))]) (fun r => (V.agg (eTVoyage r)))
theorem h_thalweglaw03_copied : Has Try.prog 17 c_thalweglaw03_copied := by
  refine hasF ctx_nil mix Try.func17 rfl (by kernel_rfl) ?_
  rintro a0 r hF
  refine ⟨of_decide_eq_true rfl, ?_⟩
  refine st1 ?_
  obtain ⟨_, h, hF⟩ := e_bind hF
  (first | refine o_app (enc := eTRun) (s := 6) h (fun _ => rfl) ?_ | refine o_appT (enc := eTRun) (s := 6) h (fun _ => rfl) ?_ | (have h := app_val h; subst h))
  refine st1 ?_
  have hq : some _ = some _ := hF
  cases hq
  exact en1


@[reducible] noncomputable def c_thalweglaw03_all : Con := conF F_thalweglaw03_all (fun x => match x with | (a0) => [(V.sl (recs eTVoyage (a0)) (a0).length)]) (fun r => (V.sl (recs eTVoyage (r)) (r).length))
theorem h_thalweglaw03_all : Has Try.prog 6 c_thalweglaw03_all := by
  refine hasF (ctx_cons h_thalweglaw03_copied ctx_nil) mix Try.func6 rfl (by kernel_rfl) ?_
  rintro a0 r hF
  refine ⟨of_decide_eq_true rfl, ?_⟩
  refine st1 ?_
  (first | refine st_loopF (e_assoc hF) () [(1, _)] ⟨sT, sS, by rfl, by rfl⟩ ?_ | ((conv => arg 7; try simp only [List.size_toArray, List.length_cons, List.length_nil, Nat.reduceAdd, Nat.zero_add]); (conv => arg 8; try simp only [List.size_toArray, List.length_cons, List.length_nil, Nat.reduceAdd, Nat.zero_add]); (conv => arg 9; try simp only [List.size_toArray, List.length_cons, List.length_nil, Nat.reduceAdd, Nat.zero_add]); refine st_loopF (e_assoc hF) () [(1, 1)] ⟨sT, sS, by rfl, by rfl⟩ ?_))
  · as_aux_lemma =>
    rintro n ⟨_, _⟩ _ x hx1 hF
    (conv => arg 7; whnf); (conv => arg 8; whnf); (conv => arg 9; whnf)
    refine st1 ?_
    rcases e_bif hF with ⟨hb3, hF⟩ | ⟨hb3, hF⟩ <;> (first | rw [hb3] | (conv => arg 7; rw [hb3]) | (conv => arg 9; rw [hb3]))
    · refine st1 ?_
      obtain ⟨_, h, hF⟩ := e_bind hF
      (first | refine o_ia (enc := eTVoyage) (s := 5) h (fun _ => rfl) (by decide) ?_ | refine o_iaT (enc := eTVoyage) (s := 5) h (fun _ => rfl) (by decide) ?_)
      intro _
      refine st1 ?_
      obtain ⟨_, h, hF⟩ := e_bind hF
      (first | refine g_call h lv1 ?_ | refine g_callT h lv1 ?_)
      (conv => arg 1; whnf)
      refine st1 ?_
      obtain ⟨_, h, hF⟩ := e_bind hF
      (first | refine o_app (enc := eTVoyage) (s := 5) h (fun _ => rfl) ?_ | refine o_appT (enc := eTVoyage) (s := 5) h (fun _ => rfl) ?_ | (have h := app_val h; subst h))
      refine st1 ?_
      (first | exact k_loopF (e_some hF) hx1 () [(1, _)] ⟨sT, sS, by rfl, by rfl⟩ | exact k_loopF (e_some hF) hx1 () [(1, 1)] ⟨sT, sS, by rfl, by rfl⟩)
    · refine st1 ?_
      (first | have hF := e_next (e_some hF) | have hF := e_some hF)
      have hq : some _ = some _ := hF
      cases hq
      exact en1


@[reducible] noncomputable def c_thalweglaw03_narrows : Con := conF F_thalweglaw03_narrows (fun x => match x with | (a0) => [(V.sl (recs eTNarrow (a0)) (a0).length)]) (fun r => (V.sl (recs eTNarrow (r)) (r).length))
theorem h_thalweglaw03_narrows : Has Try.prog 7 c_thalweglaw03_narrows := by
  refine hasF ctx_nil mix Try.func7 rfl (by kernel_rfl) ?_
  rintro a0 r hF
  refine ⟨of_decide_eq_true rfl, ?_⟩
  refine st1 ?_
  obtain ⟨_, h, hF⟩ := e_bind hF
  (first | refine o_app (enc := eTNarrow) (s := 4) h (fun _ => rfl) ?_ | refine o_appT (enc := eTNarrow) (s := 4) h (fun _ => rfl) ?_ | (have h := app_val h; subst h))
  refine st1 ?_
  have hq : some _ = some _ := hF
  cases hq
  exact en1


@[reducible] noncomputable def c_thalweglaw03_unchanged : Con := conF F_thalweglaw03_unchanged (fun x => match x with | (a0, a1) => [(V.sl (recs eTVoyage (a0)) (a0).length), (V.sl (recs eTVoyage (a1)) (a1).length)]) (fun r => (V.v (.bool (r))))
theorem fl_thalweglaw03_unchanged_42 : flatOf Try.prog 9 42 = some [true, true] := by kernel_rfl
theorem eg_thalweglaw03_unchanged_42 : Try.prog.eqGuardType Try.prog.depth 42 = false := by kernel_rfl
theorem ag_thalweglaw03_unchanged_42 : aggOf Try.prog 42 = some true := by kernel_rfl
theorem fl_thalweglaw03_unchanged_47 : flatOf Try.prog 9 47 = some [true, true, true, true, true, true] := by kernel_rfl
theorem eg_thalweglaw03_unchanged_47 : Try.prog.eqGuardType Try.prog.depth 47 = false := by kernel_rfl
theorem ag_thalweglaw03_unchanged_47 : aggOf Try.prog 47 = some true := by kernel_rfl
theorem h_thalweglaw03_unchanged : Has Try.prog 9 c_thalweglaw03_unchanged := by
  refine hasF ctx_nil mix Try.func9 rfl (by kernel_rfl) ?_
  rintro ⟨a0, a1⟩ r hF
  refine ⟨of_decide_eq_true rfl, ?_⟩
  refine st1 ?_
  rcases e_bif hF with ⟨hb1, hF⟩ | ⟨hb1, hF⟩ <;> (first | rw [hb1] | (conv => arg 7; rw [hb1]) | (conv => arg 9; rw [hb1]))
  · refine st1 ?_
    have hq : some _ = some _ := hF
    cases hq
    exact en1
  · refine st1 ?_
    (first | refine st_loopF (e_assoc hF) () [] ⟨sT, sS, by rfl, by rfl⟩ ?_ | ((conv => arg 7; try simp only [List.size_toArray, List.length_cons, List.length_nil, Nat.reduceAdd, Nat.zero_add]); (conv => arg 8; try simp only [List.size_toArray, List.length_cons, List.length_nil, Nat.reduceAdd, Nat.zero_add]); (conv => arg 9; try simp only [List.size_toArray, List.length_cons, List.length_nil, Nat.reduceAdd, Nat.zero_add]); refine st_loopF (e_assoc hF) () [] ⟨sT, sS, by rfl, by rfl⟩ ?_))
    · as_aux_lemma =>
      rintro n _ _ x hx1 hF
      (conv => arg 7; whnf); (conv => arg 8; whnf); (conv => arg 9; whnf)
      refine st1 ?_
      rcases e_bif hF with ⟨hb24, hF⟩ | ⟨hb24, hF⟩ <;> (first | rw [hb24] | (conv => arg 7; rw [hb24]) | (conv => arg 9; rw [hb24]))
      · refine st1 ?_
        obtain ⟨_, h, hF⟩ := e_bind hF
        (first | refine o_ia (enc := eTVoyage) (s := 5) h (fun _ => rfl) (by decide) ?_ | refine o_iaT (enc := eTVoyage) (s := 5) h (fun _ => rfl) (by decide) ?_)
        intro _
        refine st1 ?_
        obtain ⟨_, h, hF⟩ := e_bind hF
        (first | refine o_ia (enc := eTVoyage) (s := 5) h (fun _ => rfl) (by decide) ?_ | refine o_iaT (enc := eTVoyage) (s := 5) h (fun _ => rfl) (by decide) ?_)
        intro _
        refine st1 ?_
        rw [fl_thalweglaw03_unchanged_42, eg_thalweglaw03_unchanged_42, ag_thalweglaw03_unchanged_42]
        (conv => arg 1; whnf)
        refine st1 ?_
        rcases e_bif hF with ⟨hb25, hF⟩ | ⟨hb25, hF⟩ <;> (first | rw [hb25] | (conv => arg 7; rw [hb25]) | (conv => arg 9; rw [hb25]))
        · refine st1 ?_
          (first | have hF := e_next (e_some hF) | have hF := e_some hF)
          have hq : some _ = some _ := hF
          cases hq
          exact en1
        · refine st1 ?_
          obtain ⟨_, h, hF⟩ := e_bind hF
          (first | refine o_ia (enc := eTVoyage) (s := 5) h (fun _ => rfl) (by decide) ?_ | refine o_iaT (enc := eTVoyage) (s := 5) h (fun _ => rfl) (by decide) ?_)
          intro _
          refine st1 ?_
          obtain ⟨_, h, hF⟩ := e_bind hF
          (first | refine o_ia (enc := eTVoyage) (s := 5) h (fun _ => rfl) (by decide) ?_ | refine o_iaT (enc := eTVoyage) (s := 5) h (fun _ => rfl) (by decide) ?_)
          intro _
          refine st1 ?_
          rcases e_bif hF with ⟨hb26, hF⟩ | ⟨hb26, hF⟩ <;> (first | rw [hb26] | (conv => arg 7; rw [hb26]) | (conv => arg 9; rw [hb26]))
          · refine st1 ?_
            (first | have hF := e_next (e_some hF) | have hF := e_some hF)
            have hq : some _ = some _ := hF
            cases hq
            exact en1
          · refine st1 ?_
            obtain ⟨_, h, hF⟩ := e_bind hF
            (first | refine o_ia (enc := eTVoyage) (s := 5) h (fun _ => rfl) (by decide) ?_ | refine o_iaT (enc := eTVoyage) (s := 5) h (fun _ => rfl) (by decide) ?_)
            intro _
            refine st1 ?_
            obtain ⟨_, h, hF⟩ := e_bind hF
            (first | refine o_ia (enc := eTVoyage) (s := 5) h (fun _ => rfl) (by decide) ?_ | refine o_iaT (enc := eTVoyage) (s := 5) h (fun _ => rfl) (by decide) ?_)
            intro _
            refine st1 ?_
            rcases e_bif hF with ⟨hb27, hF⟩ | ⟨hb27, hF⟩ <;> (first | rw [hb27] | (conv => arg 7; rw [hb27]) | (conv => arg 9; rw [hb27]))
            · refine st1 ?_
              (first | have hF := e_next (e_some hF) | have hF := e_some hF)
              have hq : some _ = some _ := hF
              cases hq
              exact en1
            · refine st1 ?_
              obtain ⟨_, h, hF⟩ := e_bind hF
              (first | refine o_ia (enc := eTVoyage) (s := 5) h (fun _ => rfl) (by decide) ?_ | refine o_iaT (enc := eTVoyage) (s := 5) h (fun _ => rfl) (by decide) ?_)
              intro _
              refine st1 ?_
              obtain ⟨_, h, hF⟩ := e_bind hF
              (first | refine o_ia (enc := eTVoyage) (s := 5) h (fun _ => rfl) (by decide) ?_ | refine o_iaT (enc := eTVoyage) (s := 5) h (fun _ => rfl) (by decide) ?_)
              intro _
              refine st1 ?_
              rcases e_bif hF with ⟨hb28, hF⟩ | ⟨hb28, hF⟩ <;> (first | rw [hb28] | (conv => arg 7; rw [hb28]) | (conv => arg 9; rw [hb28]))
              · refine st1 ?_
                (first | have hF := e_next (e_some hF) | have hF := e_some hF)
                have hq : some _ = some _ := hF
                cases hq
                exact en1
              · refine st1 ?_
                (first | refine st_loopF (e_assoc hF) () [] ⟨sT, sS, by rfl, by rfl⟩ ?_ | ((conv => arg 7; try simp only [List.size_toArray, List.length_cons, List.length_nil, Nat.reduceAdd, Nat.zero_add]); (conv => arg 8; try simp only [List.size_toArray, List.length_cons, List.length_nil, Nat.reduceAdd, Nat.zero_add]); (conv => arg 9; try simp only [List.size_toArray, List.length_cons, List.length_nil, Nat.reduceAdd, Nat.zero_add]); refine st_loopF (e_assoc hF) () [] ⟨sT, sS, by rfl, by rfl⟩ ?_))
                · as_aux_lemma =>
                  rintro n _ _ x hx2 hF
                  (conv => arg 7; whnf); (conv => arg 8; whnf); (conv => arg 9; whnf)
                  refine st1 ?_
                  obtain ⟨_, h, hF⟩ := e_bind hF
                  (first | refine o_ia (enc := eTVoyage) (s := 5) h (fun _ => rfl) (by decide) ?_ | refine o_iaT (enc := eTVoyage) (s := 5) h (fun _ => rfl) (by decide) ?_)
                  intro _
                  refine st1 ?_
                  rcases e_bif hF with ⟨hb33, hF⟩ | ⟨hb33, hF⟩ <;> (first | rw [hb33] | (conv => arg 7; rw [hb33]) | (conv => arg 9; rw [hb33]))
                  · refine st1 ?_
                    obtain ⟨_, h, hF⟩ := e_bind hF
                    (first | refine o_ia (enc := eTVoyage) (s := 5) h (fun _ => rfl) (by decide) ?_ | refine o_iaT (enc := eTVoyage) (s := 5) h (fun _ => rfl) (by decide) ?_)
                    intro _
                    refine st1 ?_
                    obtain ⟨_, h, hF⟩ := e_bind hF
                    (first | refine o_ia (enc := eTRun) (s := 6) h (fun _ => rfl) (by decide) ?_ | refine o_iaT (enc := eTRun) (s := 6) h (fun _ => rfl) (by decide) ?_)
                    intro _
                    refine st1 ?_
                    obtain ⟨_, h, hF⟩ := e_bind hF
                    (first | refine o_ia (enc := eTVoyage) (s := 5) h (fun _ => rfl) (by decide) ?_ | refine o_iaT (enc := eTVoyage) (s := 5) h (fun _ => rfl) (by decide) ?_)
                    intro _
                    refine st1 ?_
                    obtain ⟨_, h, hF⟩ := e_bind hF
                    (first | refine o_ia (enc := eTRun) (s := 6) h (fun _ => rfl) (by decide) ?_ | refine o_iaT (enc := eTRun) (s := 6) h (fun _ => rfl) (by decide) ?_)
                    intro _
                    refine st1 ?_
                    rw [fl_thalweglaw03_unchanged_47, eg_thalweglaw03_unchanged_47, ag_thalweglaw03_unchanged_47]
                    (conv => arg 1; whnf)
                    refine st1 ?_
                    rcases e_bif hF with ⟨hb34, hF⟩ | ⟨hb34, hF⟩ <;> (first | rw [hb34] | (conv => arg 7; rw [hb34]) | (conv => arg 9; rw [hb34]))
                    · refine st1 ?_
                      (first | have hF := e_next (e_some hF) | have hF := e_some hF)
                      (first | have hF := e_next (e_some hF) | have hF := e_some hF)
                      have hq : some _ = some _ := hF
                      cases hq
                      exact en1
                    · refine st1 ?_
                      (first | exact k_loopF (e_some hF) hx2 () [] ⟨sT, sS, by rfl, by rfl⟩ | exact k_loopF (e_some hF) hx2 () [] ⟨sT, sS, by rfl, by rfl⟩)
                  · refine st1 ?_
                    (first | have hF := e_next (e_some hF) | have hF := e_some hF)
                    (first | exact k_loopF (e_some hF) hx1 () [] ⟨sT, sS, by rfl, by rfl⟩ | exact k_loopF (e_some hF) hx1 () [] ⟨sT, sS, by rfl, by rfl⟩)
      · refine st1 ?_
        (first | have hF := e_next (e_some hF) | have hF := e_some hF)
        have hq : some _ = some _ := hF
        cases hq
        exact en1


@[reducible] noncomputable def c_thalweglaw03_TowConflicts : Con := conF F_thalweglaw03_TowConflicts (fun x => match x with | (a0) => [(V.agg (eTthalweglaw03_Traffic a0))]) (fun r => (V.v (.bool (r))))
theorem fl_thalweglaw03_TowConflicts_36 : flatOf Try.prog 9 36 = some [true, true, true, false] := by kernel_rfl
theorem eg_thalweglaw03_TowConflicts_36 : Try.prog.eqGuardType Try.prog.depth 36 = false := by kernel_rfl
theorem ag_thalweglaw03_TowConflicts_36 : aggOf Try.prog 36 = some true := by kernel_rfl
theorem fl_thalweglaw03_TowConflicts_40 : flatOf Try.prog 9 40 = some [true, true, true] := by kernel_rfl
theorem eg_thalweglaw03_TowConflicts_40 : Try.prog.eqGuardType Try.prog.depth 40 = false := by kernel_rfl
theorem ag_thalweglaw03_TowConflicts_40 : aggOf Try.prog 40 = some true := by kernel_rfl
theorem h_thalweglaw03_TowConflicts : Has Try.prog 3 c_thalweglaw03_TowConflicts := by
  refine hasF (ctx_cons h_thalwegref03_Conflicts (ctx_cons h_thalwegref03_Start (ctx_cons h_thalweglaw03_unchanged (ctx_cons h_tow_Conflicts (ctx_cons h_thalweglaw03_narrows (ctx_cons h_thalweglaw03_all (ctx_cons h_thalweglaw03_known (ctx_cons h_thalweglaw03_large ctx_nil)))))))) mix Try.func3 rfl (by kernel_rfl) ?_
  rintro a0 r hF
  refine ⟨of_decide_eq_true rfl, ?_⟩
  refine st1 ?_
  obtain ⟨_, h, hF⟩ := e_bind hF
  (first | refine g_call h lv1 ?_ | refine g_callT h lv1 ?_)
  (conv => arg 1; whnf)
  refine st1 ?_
  rcases e_bif hF with ⟨hb1, hF⟩ | ⟨hb1, hF⟩ <;> (first | rw [hb1] | (conv => arg 7; rw [hb1]) | (conv => arg 9; rw [hb1]))
  · refine st1 ?_
    obtain ⟨_, h, hF⟩ := e_bind hF
    (first | refine g_call h lv1 ?_ | refine g_callT h lv1 ?_)
    (conv => arg 1; whnf)
    refine st1 ?_
    have hq : some _ = some _ := hF
    cases hq
    exact en1
  · refine st1 ?_
    obtain ⟨_, h, hF⟩ := e_bind hF
    (first | refine g_call h lv1 ?_ | refine g_callT h lv1 ?_)
    (conv => arg 1; whnf)
    refine st1 ?_
    obtain ⟨_, h, hF⟩ := e_bind hF
    (first | refine g_call h lv1 ?_ | refine g_callT h lv1 ?_)
    (conv => arg 1; whnf)
    refine st1 ?_
    obtain ⟨_, h, hF⟩ := e_bind hF
    (first | refine g_call h lv1 ?_ | refine g_callT h lv1 ?_)
    (conv => arg 1; whnf)
    refine st1 ?_
    obtain ⟨_, h, hF⟩ := e_bind hF
    (first | refine g_call h lv1 ?_ | refine g_callT h lv1 ?_)
    (conv => arg 1; whnf)
    refine st1 ?_
    rcases e_bif hF with ⟨hb2, hF⟩ | ⟨hb2, hF⟩ <;> (first | rw [hb2] | (conv => arg 7; rw [hb2]) | (conv => arg 9; rw [hb2]))
    · refine st1 ?_
      have hq : some _ = some _ := hF
      cases hq
      exact en1
    · refine st1 ?_
      (first | refine st_loopF (e_assoc hF) () [(0, _)] ⟨sT, sS, by rfl, by rfl⟩ ?_ | ((conv => arg 7; try simp only [List.size_toArray, List.length_cons, List.length_nil, Nat.reduceAdd, Nat.zero_add]); (conv => arg 8; try simp only [List.size_toArray, List.length_cons, List.length_nil, Nat.reduceAdd, Nat.zero_add]); (conv => arg 9; try simp only [List.size_toArray, List.length_cons, List.length_nil, Nat.reduceAdd, Nat.zero_add]); refine st_loopF (e_assoc hF) () [(0, 0)] ⟨sT, sS, by rfl, by rfl⟩ ?_))
      · as_aux_lemma =>
        rintro n _ _ x hx1 hF
        (conv => arg 7; whnf); (conv => arg 8; whnf); (conv => arg 9; whnf)
        refine st1 ?_
        rcases e_bif hF with ⟨hb7, hF⟩ | ⟨hb7, hF⟩ <;> (first | rw [hb7] | (conv => arg 7; rw [hb7]) | (conv => arg 9; rw [hb7]))
        · refine st1 ?_
          obtain ⟨_, h, hF⟩ := e_bind hF
          (first | refine o_ia (enc := eTNarrow) (s := 4) h (fun _ => rfl) (by decide) ?_ | refine o_iaT (enc := eTNarrow) (s := 4) h (fun _ => rfl) (by decide) ?_)
          intro _
          refine st1 ?_
          obtain ⟨_, h, hF⟩ := e_bind hF
          (first | refine o_ia (enc := eTNarrow) (s := 4) h (fun _ => rfl) (by decide) ?_ | refine o_iaT (enc := eTNarrow) (s := 4) h (fun _ => rfl) (by decide) ?_)
          intro _
          refine st1 ?_
          rw [fl_thalweglaw03_TowConflicts_36, eg_thalweglaw03_TowConflicts_36, ag_thalweglaw03_TowConflicts_36]
          (conv => arg 1; whnf)
          refine st1 ?_
          rcases e_bif hF with ⟨hb8, hF⟩ | ⟨hb8, hF⟩ <;> (first | rw [hb8] | (conv => arg 7; rw [hb8]) | (conv => arg 9; rw [hb8]))
          · refine st1 ?_
            (first | have hF := e_next (e_some hF) | have hF := e_some hF)
            have hq : some _ = some _ := hF
            cases hq
            exact en1
          · refine st1 ?_
            (first | exact k_loopF (e_some hF) hx1 () [(0, _)] ⟨sT, sS, by rfl, by rfl⟩ | exact k_loopF (e_some hF) hx1 () [(0, 0)] ⟨sT, sS, by rfl, by rfl⟩)
        · refine st1 ?_
          (first | have hF := e_next (e_some hF) | have hF := e_some hF)
          obtain ⟨_, h, hF⟩ := e_bind hF
          (first | refine g_call h lv1 ?_ | refine g_callT h lv1 ?_)
          (conv => arg 1; whnf)
          refine st1 ?_
          rcases e_bif hF with ⟨hb9, hF⟩ | ⟨hb9, hF⟩ <;> (first | rw [hb9] | (conv => arg 7; rw [hb9]) | (conv => arg 9; rw [hb9]))
          · refine st1 ?_
            rcases e_bif hF with ⟨hb10, hF⟩ | ⟨hb10, hF⟩ <;> (first | rw [hb10] | (conv => arg 7; rw [hb10]) | (conv => arg 9; rw [hb10]))
            · refine st1 ?_
              rcases e_bif hF with ⟨hb11, hF⟩ | ⟨hb11, hF⟩ <;> (first | rw [hb11] | (conv => arg 7; rw [hb11]) | (conv => arg 9; rw [hb11]))
              · refine st1 ?_
                obtain ⟨_, h, hF⟩ := e_bind hF
                (first | refine g_call h lv1 ?_ | refine g_callT h lv1 ?_)
                (conv => arg 1; whnf)
                refine st1 ?_
                have hq : some _ = some _ := hF
                cases hq
                exact en1
              · refine st1 ?_
                have hq : some _ = some _ := hF
                cases hq
                exact en1
            · refine st1 ?_
              have hq : some _ = some _ := hF
              cases hq
              exact en1
          · refine st1 ?_
            obtain ⟨_, h, hF⟩ := e_bind hF
            (first | refine g_call h lv1 ?_ | refine g_callT h lv1 ?_)
            (conv => arg 1; whnf)
            refine st1 ?_
            rcases e_bif hF with ⟨hb12, hF⟩ | ⟨hb12, hF⟩ <;> (first | rw [hb12] | (conv => arg 7; rw [hb12]) | (conv => arg 9; rw [hb12]))
            · refine st1 ?_
              have hq : some _ = some _ := hF
              cases hq
              exact en1
            · refine st1 ?_
              rcases e_bif hF with ⟨hb13, hF⟩ | ⟨hb13, hF⟩ <;> (first | rw [hb13] | (conv => arg 7; rw [hb13]) | (conv => arg 9; rw [hb13]))
              · refine st1 ?_
                have hq : some _ = some _ := hF
                cases hq
                exact en1
              · refine st1 ?_
                (first | refine st_loopF (e_assoc hF) () [] ⟨sT, sS, by rfl, by rfl⟩ ?_ | ((conv => arg 7; try simp only [List.size_toArray, List.length_cons, List.length_nil, Nat.reduceAdd, Nat.zero_add]); (conv => arg 8; try simp only [List.size_toArray, List.length_cons, List.length_nil, Nat.reduceAdd, Nat.zero_add]); (conv => arg 9; try simp only [List.size_toArray, List.length_cons, List.length_nil, Nat.reduceAdd, Nat.zero_add]); refine st_loopF (e_assoc hF) () [] ⟨sT, sS, by rfl, by rfl⟩ ?_))
                · as_aux_lemma =>
                  rintro n _ _ x hx1 hF
                  (conv => arg 7; whnf); (conv => arg 8; whnf); (conv => arg 9; whnf)
                  refine st1 ?_
                  rcases e_bif hF with ⟨hb18, hF⟩ | ⟨hb18, hF⟩ <;> (first | rw [hb18] | (conv => arg 7; rw [hb18]) | (conv => arg 9; rw [hb18]))
                  · refine st1 ?_
                    obtain ⟨_, h, hF⟩ := e_bind hF
                    (first | refine o_ia (enc := eTMeeting) (s := 3) h (fun _ => rfl) (by decide) ?_ | refine o_iaT (enc := eTMeeting) (s := 3) h (fun _ => rfl) (by decide) ?_)
                    intro _
                    refine st1 ?_
                    obtain ⟨_, h, hF⟩ := e_bind hF
                    (first | refine o_ia (enc := eTMeeting) (s := 3) h (fun _ => rfl) (by decide) ?_ | refine o_iaT (enc := eTMeeting) (s := 3) h (fun _ => rfl) (by decide) ?_)
                    intro _
                    refine st1 ?_
                    rw [fl_thalweglaw03_TowConflicts_40, eg_thalweglaw03_TowConflicts_40, ag_thalweglaw03_TowConflicts_40]
                    (conv => arg 1; whnf)
                    refine st1 ?_
                    rcases e_bif hF with ⟨hb19, hF⟩ | ⟨hb19, hF⟩ <;> (first | rw [hb19] | (conv => arg 7; rw [hb19]) | (conv => arg 9; rw [hb19]))
                    · refine st1 ?_
                      (first | have hF := e_next (e_some hF) | have hF := e_some hF)
                      have hq : some _ = some _ := hF
                      cases hq
                      exact en1
                    · refine st1 ?_
                      (first | exact k_loopF (e_some hF) hx1 () [] ⟨sT, sS, by rfl, by rfl⟩ | exact k_loopF (e_some hF) hx1 () [] ⟨sT, sS, by rfl, by rfl⟩)
                  · refine st1 ?_
                    (first | have hF := e_next (e_some hF) | have hF := e_some hF)
                    obtain ⟨_, h, hF⟩ := e_bind hF
                    (first | refine g_call h lv1 ?_ | refine g_callT h lv1 ?_)
                    (conv => arg 1; whnf)
                    refine st1 ?_
                    have hq : some _ = some _ := hF
                    cases hq
                    exact en1

end Go.Ev
