/- A part of the proof of RiverTruths. -/
import Derived.Test.YtcbkndfnjhfdpaaW12
/- The functions do what is said. -/
set_option linter.unusedVariables false
set_option linter.unusedSimpArgs false
namespace Go.Ev
open Go.Proofs
set_option maxHeartbeats 8000000
set_option maxRecDepth 100000
@[reducible] noncomputable def c_thalweglaw01_RiverTruths : Con := conF F_thalweglaw01_RiverTruths (fun x => match x with | (a0, a1, a2) => [(V.agg (eTthalweglaw01_Forecast a0)), (V.agg (eTthalweglaw01_Truth a1)), (V.sl (recs eTPass (a2)) (a2).length)]) (fun r => (V.v (.bool (r))))
theorem fl_thalweglaw01_RiverTruths_42 : flatOf Try.prog 9 42 = some [true, true] := by kernel_rfl
theorem eg_thalweglaw01_RiverTruths_42 : Try.prog.eqGuardType Try.prog.depth 42 = false := by kernel_rfl
theorem ag_thalweglaw01_RiverTruths_42 : aggOf Try.prog 42 = some true := by kernel_rfl
theorem h_thalweglaw01_RiverTruths : Has Try.prog 4 c_thalweglaw01_RiverTruths := by
  refine hasF (ctx_cons h_river_Bed (ctx_cons h_river_Depth (ctx_cons h_thalweglaw01_part (ctx_cons h_thalweglaw01_pick (ctx_cons h_river_Shallowest (ctx_cons h_thalweglaw01_in (ctx_cons h_river_Level (ctx_cons h_thalweglaw01_truly (ctx_cons h_thalweglaw01_valid (ctx_cons h_river_Levels (ctx_cons h_river_Flows (ctx_cons h_thalweglaw01_forecast (ctx_cons h_thalweglaw01_copied (ctx_cons h_thalweglaw01_known ctx_nil)))))))))))))) mix Try.func4 rfl (by kernel_rfl) ?_
  rintro ⟨a0, a1, a2⟩ r hF
  refine ⟨of_decide_eq_true rfl, ?_⟩
  refine st1 ?_
  obtain ⟨_, h, hF⟩ := e_bind hF
  (first | refine g_call h lv1 ?_ | refine g_callT h lv1 ?_)
  (conv => arg 1; whnf)
  refine st1 ?_
  rcases e_bif hF with ⟨hb1, hF⟩ | ⟨hb1, hF⟩ <;> (first | rw [hb1] | (conv => arg 7; rw [hb1]) | (conv => arg 9; rw [hb1]))
  · refine st1 ?_
    obtain ⟨_, h, hF⟩ := e_bind hF
    (first | refine g_call h lv1 ?_ | refine g_callT h lv1 ?_)
    (conv => arg 1; whnf)
    refine st1 ?_
    have hq : some _ = some _ := hF
    cases hq
    exact en1
  · refine st1 ?_
    rcases e_bif hF with ⟨hb2, hF⟩ | ⟨hb2, hF⟩ <;> (first | rw [hb2] | (conv => arg 7; rw [hb2]) | (conv => arg 9; rw [hb2]))
    · refine st1 ?_
      obtain ⟨_, h, hF⟩ := e_bind hF
      (first | refine g_call h lv1 ?_ | refine g_callT h lv1 ?_)
      (conv => arg 1; whnf)
      refine st1 ?_
      have hq : some _ = some _ := hF
      cases hq
      exact en1
    · refine st1 ?_
      obtain ⟨_, h, hF⟩ := e_bind hF
      (first | refine g_call h lv1 ?_ | refine g_callT h lv1 ?_)
      (conv => arg 1; whnf)
      refine st1 ?_
      obtain ⟨_, h, hF⟩ := e_bind hF
      (first | refine g_call h lv1 ?_ | refine g_callT h lv1 ?_)
      (conv => arg 1; whnf)
      refine st1 ?_
      obtain ⟨_, h, hF⟩ := e_bind hF
      (first | refine g_call h lv1 ?_ | refine g_callT h lv1 ?_)
      (conv => arg 1; whnf)
      refine st1 ?_
      obtain ⟨_, h, hF⟩ := e_bind hF
      (first | refine g_call h lv1 ?_ | refine g_callT h lv1 ?_)
      (conv => arg 1; whnf)
      refine st1 ?_
      obtain ⟨_, h, hF⟩ := e_bind hF
      (first | refine g_call h lv1 ?_ | refine g_callT h lv1 ?_)
      (conv => arg 1; whnf)
      refine st1 ?_
      obtain ⟨_, h, hF⟩ := e_bind hF
      (first | refine g_call h lv1 ?_ | refine g_callT h lv1 ?_)
      (conv => arg 1; whnf)
      refine st1 ?_
      rcases e_bif hF with ⟨hb3, hF⟩ | ⟨hb3, hF⟩ <;> (first | rw [hb3] | (conv => arg 7; rw [hb3]) | (conv => arg 9; rw [hb3]))
      · refine st1 ?_
        have hq : some _ = some _ := hF
        cases hq
        exact en1
      · refine st1 ?_
        rcases e_bif hF with ⟨hb4, hF⟩ | ⟨hb4, hF⟩ <;> (first | rw [hb4] | (conv => arg 7; rw [hb4]) | (conv => arg 9; rw [hb4]))
        · refine st1 ?_
          have hq : some _ = some _ := hF
          cases hq
          exact en1
        · refine st1 ?_
          rcases e_bif hF with ⟨hb5, hF⟩ | ⟨hb5, hF⟩ <;> (first | rw [hb5] | (conv => arg 7; rw [hb5]) | (conv => arg 9; rw [hb5]))
          · refine st1 ?_
            have hq : some _ = some _ := hF
            cases hq
            exact en1
          · refine st1 ?_
            rcases e_bif hF with ⟨hb6, hF⟩ | ⟨hb6, hF⟩ <;> (first | rw [hb6] | (conv => arg 7; rw [hb6]) | (conv => arg 9; rw [hb6]))
            · refine st1 ?_
              have hq : some _ = some _ := hF
              cases hq
              exact en1
            · refine st1 ?_
              refine st_loopF (e_assoc hF) () [(0, _), (1, _)] ⟨sT, sS, by rfl, by rfl⟩ ?_
              · as_aux_lemma =>
                rintro n _ _ x hx1 hF
                (conv => arg 7; whnf); (conv => arg 8; whnf); (conv => arg 9; whnf)
                refine st1 ?_
                rcases e_bif hF with ⟨hb55, hF⟩ | ⟨hb55, hF⟩ <;> (first | rw [hb55] | (conv => arg 7; rw [hb55]) | (conv => arg 9; rw [hb55]))
                · refine st1 ?_
                  obtain ⟨_, h, hF⟩ := e_bind hF
                  (first | refine o_ia (enc := (eS eTBounds)) (s := 1) h (fun _ => rfl) (by decide) ?_ | refine o_iaT (enc := (eS eTBounds)) (s := 1) h (fun _ => rfl) (by decide) ?_)
                  intro _
                  refine st1 ?_
                  obtain ⟨_, h, hF⟩ := e_bind hF
                  (first | refine o_ia (enc := (eS eTBounds)) (s := 1) h (fun _ => rfl) (by decide) ?_ | refine o_iaT (enc := (eS eTBounds)) (s := 1) h (fun _ => rfl) (by decide) ?_)
                  intro _
                  refine st1 ?_
                  rcases e_bif hF with ⟨hb56, hF⟩ | ⟨hb56, hF⟩ <;> (first | rw [hb56] | (conv => arg 7; rw [hb56]) | (conv => arg 9; rw [hb56]))
                  · refine st1 ?_
                    (first | have hF := e_next (e_some hF) | have hF := e_some hF)
                    have hq : some _ = some _ := hF
                    cases hq
                    exact en1
                  · refine st1 ?_
                    obtain ⟨_, h, hF⟩ := e_bind hF
                    (first | refine o_ia (enc := (eS eTBounds)) (s := 1) h (fun _ => rfl) (by decide) ?_ | refine o_iaT (enc := (eS eTBounds)) (s := 1) h (fun _ => rfl) (by decide) ?_)
                    intro _
                    refine st1 ?_
                    obtain ⟨_, h, hF⟩ := e_bind hF
                    (first | refine o_ia (enc := (eS eTBounds)) (s := 1) h (fun _ => rfl) (by decide) ?_ | refine o_iaT (enc := (eS eTBounds)) (s := 1) h (fun _ => rfl) (by decide) ?_)
                    intro _
                    refine st1 ?_
                    rcases e_bif hF with ⟨hb57, hF⟩ | ⟨hb57, hF⟩ <;> (first | rw [hb57] | (conv => arg 7; rw [hb57]) | (conv => arg 9; rw [hb57]))
                    · refine st1 ?_
                      (first | have hF := e_next (e_some hF) | have hF := e_some hF)
                      have hq : some _ = some _ := hF
                      cases hq
                      exact en1
                    · refine st1 ?_
                      refine st_loopF (e_assoc hF) () [(0, _), (1, _)] ⟨sT, sS, by rfl, by rfl⟩ ?_
                      · as_aux_lemma =>
                        rintro n _ _ x hx2 hF
                        (conv => arg 7; whnf); (conv => arg 8; whnf); (conv => arg 9; whnf)
                        refine st1 ?_
                        obtain ⟨_, h, hF⟩ := e_bind hF
                        (first | refine o_ia (enc := (eS eTBounds)) (s := 1) h (fun _ => rfl) (by decide) ?_ | refine o_iaT (enc := (eS eTBounds)) (s := 1) h (fun _ => rfl) (by decide) ?_)
                        intro _
                        refine st1 ?_
                        rcases e_bif hF with ⟨hb72, hF⟩ | ⟨hb72, hF⟩ <;> (first | rw [hb72] | (conv => arg 7; rw [hb72]) | (conv => arg 9; rw [hb72]))
                        · refine st1 ?_
                          obtain ⟨_, h, hF⟩ := e_bind hF
                          (first | refine g_call h lv1 ?_ | refine g_callT h lv1 ?_)
                          (conv => arg 1; whnf)
                          refine st1 ?_
                          obtain ⟨_, h, hF⟩ := e_bind hF
                          (first | refine g_call h lv1 ?_ | refine g_callT h lv1 ?_)
                          (conv => arg 1; whnf)
                          refine st1 ?_
                          obtain ⟨_, h, hF⟩ := e_bind hF
                          (first | refine o_ia (enc := eTReach) (s := 9) h (fun _ => rfl) (by decide) ?_ | refine o_iaT (enc := eTReach) (s := 9) h (fun _ => rfl) (by decide) ?_)
                          intro _
                          refine st1 ?_
                          obtain ⟨_, h, hF⟩ := e_bind hF
                          (first | refine g_call h lv1 ?_ | refine g_callT h lv1 ?_)
                          (conv => arg 1; whnf)
                          refine st1 ?_
                          rcases e_bif hF with ⟨hb73, hF⟩ | ⟨hb73, hF⟩ <;> (first | rw [hb73] | (conv => arg 7; rw [hb73]) | (conv => arg 9; rw [hb73]))
                          · refine st1 ?_
                            (first | have hF := e_next (e_some hF) | have hF := e_some hF)
                            (first | have hF := e_next (e_some hF) | have hF := e_some hF)
                            have hq : some _ = some _ := hF
                            cases hq
                            exact en1
                          · refine st1 ?_
                            obtain ⟨_, h, hF⟩ := e_bind hF
                            (first | refine o_ia (enc := (eS eTBounds)) (s := 1) h (fun _ => rfl) (by decide) ?_ | refine o_iaT (enc := (eS eTBounds)) (s := 1) h (fun _ => rfl) (by decide) ?_)
                            intro _
                            refine st1 ?_
                            obtain ⟨_, h, hF⟩ := e_bind hF
                            (first | refine o_ia (enc := eTBounds) (s := 2) h (fun _ => rfl) (by decide) ?_ | refine o_iaT (enc := eTBounds) (s := 2) h (fun _ => rfl) (by decide) ?_)
                            intro _
                            refine st1 ?_
                            obtain ⟨_, h, hF⟩ := e_bind hF
                            (first | refine g_call h lv1 ?_ | refine g_callT h lv1 ?_)
                            (conv => arg 1; whnf)
                            refine st1 ?_
                            rcases e_bif hF with ⟨hb74, hF⟩ | ⟨hb74, hF⟩ <;> (first | rw [hb74] | (conv => arg 7; rw [hb74]) | (conv => arg 9; rw [hb74]))
                            · refine st1 ?_
                              (first | have hF := e_next (e_some hF) | have hF := e_some hF)
                              (first | have hF := e_next (e_some hF) | have hF := e_some hF)
                              have hq : some _ = some _ := hF
                              cases hq
                              exact en1
                            · refine st1 ?_
                              obtain ⟨_, h, hF⟩ := e_bind hF
                              (first | refine o_ia (enc := (eS eTBounds)) (s := 1) h (fun _ => rfl) (by decide) ?_ | refine o_iaT (enc := (eS eTBounds)) (s := 1) h (fun _ => rfl) (by decide) ?_)
                              intro _
                              refine st1 ?_
                              obtain ⟨_, h, hF⟩ := e_bind hF
                              (first | refine o_ia (enc := eTBounds) (s := 2) h (fun _ => rfl) (by decide) ?_ | refine o_iaT (enc := eTBounds) (s := 2) h (fun _ => rfl) (by decide) ?_)
                              intro _
                              refine st1 ?_
                              rcases e_bif hF with ⟨hb75, hF⟩ | ⟨hb75, hF⟩ <;> (first | rw [hb75] | (conv => arg 7; rw [hb75]) | (conv => arg 9; rw [hb75]))
                              · refine st1 ?_
                                (first | have hF := e_next (e_some hF) | have hF := e_some hF)
                                (first | have hF := e_next (e_some hF) | have hF := e_some hF)
                                have hq : some _ = some _ := hF
                                cases hq
                                exact en1
                              · refine st1 ?_
                                obtain ⟨_, h, hF⟩ := e_bind hF
                                (first | refine o_ia (enc := (eS eTBounds)) (s := 1) h (fun _ => rfl) (by decide) ?_ | refine o_iaT (enc := (eS eTBounds)) (s := 1) h (fun _ => rfl) (by decide) ?_)
                                intro _
                                refine st1 ?_
                                obtain ⟨_, h, hF⟩ := e_bind hF
                                (first | refine o_ia (enc := eTBounds) (s := 2) h (fun _ => rfl) (by decide) ?_ | refine o_iaT (enc := eTBounds) (s := 2) h (fun _ => rfl) (by decide) ?_)
                                intro _
                                refine st1 ?_
                                rcases e_bif hF with ⟨hb76, hF⟩ | ⟨hb76, hF⟩ <;> (first | rw [hb76] | (conv => arg 7; rw [hb76]) | (conv => arg 9; rw [hb76]))
                                · refine st1 ?_
                                  (first | have hF := e_next (e_some hF) | have hF := e_some hF)
                                  (first | have hF := e_next (e_some hF) | have hF := e_some hF)
                                  have hq : some _ = some _ := hF
                                  cases hq
                                  exact en1
                                · refine st1 ?_
                                  rcases e_bif hF with ⟨hb77, hF⟩ | ⟨hb77, hF⟩ <;> (first | rw [hb77] | (conv => arg 7; rw [hb77]) | (conv => arg 9; rw [hb77]))
                                  · refine st1 ?_
                                    (first | have hF := e_next (e_some hF) | have hF := e_some hF)
                                    (first | have hF := e_next (e_some hF) | have hF := e_some hF)
                                    have hq : some _ = some _ := hF
                                    cases hq
                                    exact en1
                                  · refine st1 ?_
                                    obtain ⟨_, h, hF⟩ := e_bind hF
                                    (first | refine o_ia (enc := eTReach) (s := 9) h (fun _ => rfl) (by decide) ?_ | refine o_iaT (enc := eTReach) (s := 9) h (fun _ => rfl) (by decide) ?_)
                                    intro _
                                    refine st1 ?_
                                    rcases e_bif hF with ⟨hb78, hF⟩ | ⟨hb78, hF⟩ <;> (first | rw [hb78] | (conv => arg 7; rw [hb78]) | (conv => arg 9; rw [hb78]))
                                    · refine st1 ?_
                                      (first | have hF := e_next (e_some hF) | have hF := e_some hF)
                                      (first | have hF := e_next (e_some hF) | have hF := e_some hF)
                                      have hq : some _ = some _ := hF
                                      cases hq
                                      exact en1
                                    · refine st1 ?_
                                      obtain ⟨_, h, hF⟩ := e_bind hF
                                      (first | refine o_ia (enc := (eS eTBounds)) (s := 1) h (fun _ => rfl) (by decide) ?_ | refine o_iaT (enc := (eS eTBounds)) (s := 1) h (fun _ => rfl) (by decide) ?_)
                                      intro _
                                      refine st1 ?_
                                      exact k_loopF (e_some hF) hx2 () [(0, _), (1, _)] ⟨sT, sS, by rfl, by rfl⟩
                        · refine st1 ?_
                          (first | have hF := e_next (e_some hF) | have hF := e_some hF)
                          exact k_loopF (e_some hF) hx1 () [(0, _), (1, _)] ⟨sT, sS, by rfl, by rfl⟩
                · refine st1 ?_
                  (first | have hF := e_next (e_some hF) | have hF := e_some hF)
                  obtain ⟨_, h, hF⟩ := e_bind hF
                  (first | refine g_call h lv1 ?_ | refine g_callT h lv1 ?_)
                  (conv => arg 1; whnf)
                  refine st1 ?_
                  obtain ⟨_, h, hF⟩ := e_bind hF
                  (first | refine g_call h lv1 ?_ | refine g_callT h lv1 ?_)
                  (conv => arg 1; whnf)
                  refine st1 ?_
                  obtain ⟨_, h, hF⟩ := e_bind hF
                  (first | refine o_app (enc := eTPass) (s := 3) h (fun _ => rfl) ?_ | refine o_appT (enc := eTPass) (s := 3) h (fun _ => rfl) ?_)
                  refine st1 ?_
                  obtain ⟨_, h, hF⟩ := e_bind hF
                  (first | refine g_call h lv1 ?_ | refine g_callT h lv1 ?_)
                  (conv => arg 1; whnf)
                  refine st1 ?_
                  rcases e_bif hF with ⟨hb79, hF⟩ | ⟨hb79, hF⟩ <;> (first | rw [hb79] | (conv => arg 7; rw [hb79]) | (conv => arg 9; rw [hb79]))
                  · refine st1 ?_
                    rcases e_bif hF with ⟨hb80, hF⟩ | ⟨hb80, hF⟩ <;> (first | rw [hb80] | (conv => arg 7; rw [hb80]) | (conv => arg 9; rw [hb80]))
                    · refine st1 ?_
                      rcases e_bif hF with ⟨hb81, hF⟩ | ⟨hb81, hF⟩ <;> (first | rw [hb81] | (conv => arg 7; rw [hb81]) | (conv => arg 9; rw [hb81]))
                      · refine st1 ?_
                        rw [fl_thalweglaw01_RiverTruths_42, eg_thalweglaw01_RiverTruths_42, ag_thalweglaw01_RiverTruths_42]
                        (conv => arg 1; whnf)
                        refine st1 ?_
                        rcases e_bif hF with ⟨hb82, hF⟩ | ⟨hb82, hF⟩ <;> (first | rw [hb82] | (conv => arg 7; rw [hb82]) | (conv => arg 9; rw [hb82]))
                        · refine st1 ?_
                          obtain ⟨_, h, hF⟩ := e_bind hF
                          (first | refine g_call h lv1 ?_ | refine g_callT h lv1 ?_)
                          (conv => arg 1; whnf)
                          refine st1 ?_
                          have hq : some _ = some _ := hF
                          cases hq
                          exact en1
                        · refine st1 ?_
                          have hq : some _ = some _ := hF
                          cases hq
                          exact en1
                      · refine st1 ?_
                        have hq : some _ = some _ := hF
                        cases hq
                        exact en1
                    · refine st1 ?_
                      have hq : some _ = some _ := hF
                      cases hq
                      exact en1
                  · refine st1 ?_
                    refine st_loopF (e_assoc hF) () [(0, _), (1, _), (21, _)] ⟨sT, sS, by rfl, by rfl⟩ ?_
                    · as_aux_lemma =>
                      rintro n ⟨_, _, _⟩ _ x hx1 hF
                      (conv => arg 7; whnf); (conv => arg 8; whnf); (conv => arg 9; whnf)
                      refine st1 ?_
                      rcases e_bif hF with ⟨hb137, hF⟩ | ⟨hb137, hF⟩ <;> (first | rw [hb137] | (conv => arg 7; rw [hb137]) | (conv => arg 9; rw [hb137]))
                      · refine st1 ?_
                        obtain ⟨_, h, hF⟩ := e_bind hF
                        (first | refine o_ia (enc := eTPass) (s := 3) h (fun _ => rfl) (by decide) ?_ | refine o_iaT (enc := eTPass) (s := 3) h (fun _ => rfl) (by decide) ?_)
                        intro _
                        refine st1 ?_
                        obtain ⟨_, h, hF⟩ := e_bind hF
                        (first | refine g_call h lv1 ?_ | refine g_callT h lv1 ?_)
                        (conv => arg 1; whnf)
                        refine st1 ?_
                        obtain ⟨_, h, hF⟩ := e_bind hF
                        (first | refine g_call h lv1 ?_ | refine g_callT h lv1 ?_)
                        (conv => arg 1; whnf)
                        refine st1 ?_
                        refine st_loopF (e_assoc hF) () [(0, _), (1, _), (21, _), (30, _)] ⟨sT, sS, by rfl, by rfl⟩ ?_
                        · as_aux_lemma =>
                          rintro n ⟨_, _⟩ _ x hx2 hF
                          (conv => arg 7; whnf); (conv => arg 8; whnf); (conv => arg 9; whnf)
                          refine st1 ?_
                          rcases e_bif hF with ⟨hb142, hF⟩ | ⟨hb142, hF⟩ <;> (first | rw [hb142] | (conv => arg 7; rw [hb142]) | (conv => arg 9; rw [hb142]))
                          · refine st1 ?_
                            obtain ⟨_, h, hF⟩ := e_bind hF
                            (first | refine o_ia (enc := eTReach) (s := 9) h (fun _ => rfl) (by decide) ?_ | refine o_iaT (enc := eTReach) (s := 9) h (fun _ => rfl) (by decide) ?_)
                            intro _
                            refine st1 ?_
                            rcases e_bif hF with ⟨hb143, hF⟩ | ⟨hb143, hF⟩ <;> (first | rw [hb143] | (conv => arg 7; rw [hb143]) | (conv => arg 9; rw [hb143]))
                            · refine st1 ?_
                              obtain ⟨_, h, hF⟩ := e_bind hF
                              (first | refine o_ia (enc := eTReach) (s := 9) h (fun _ => rfl) (by decide) ?_ | refine o_iaT (enc := eTReach) (s := 9) h (fun _ => rfl) (by decide) ?_)
                              intro _
                              refine st1 ?_
                              exact k_loopF (e_some hF) hx2 () [(0, _), (1, _), (21, _), (30, _)] ⟨sT, sS, by rfl, by rfl⟩
                            · refine st1 ?_
                              (first | have hF := e_next (e_some hF) | have hF := e_some hF)
                              rcases e_bif hF with ⟨hb144, hF⟩ | ⟨hb144, hF⟩ <;> (first | rw [hb144] | (conv => arg 7; rw [hb144]) | (conv => arg 9; rw [hb144]))
                              · refine st1 ?_
                                (first | have hF := e_next (e_some hF) | have hF := e_some hF)
                                have hq : some _ = some _ := hF
                                cases hq
                                exact en1
                              · refine st1 ?_
                                obtain ⟨_, h, hF⟩ := e_bind hF
                                (first | refine o_ia (enc := (eS eTBounds)) (s := 1) h (fun _ => rfl) (by decide) ?_ | refine o_iaT (enc := (eS eTBounds)) (s := 1) h (fun _ => rfl) (by decide) ?_)
                                intro _
                                refine st1 ?_
                                rcases e_bif hF with ⟨hb145, hF⟩ | ⟨hb145, hF⟩ <;> (first | rw [hb145] | (conv => arg 7; rw [hb145]) | (conv => arg 9; rw [hb145]))
                                · refine st1 ?_
                                  (first | have hF := e_next (e_some hF) | have hF := e_some hF)
                                  have hq : some _ = some _ := hF
                                  cases hq
                                  exact en1
                                · refine st1 ?_
                                  obtain ⟨_, h, hF⟩ := e_bind hF
                                  (first | refine g_call h lv1 ?_ | refine g_callT h lv1 ?_)
                                  (conv => arg 1; whnf)
                                  refine st1 ?_
                                  obtain ⟨_, h, hF⟩ := e_bind hF
                                  (first | refine g_call h lv1 ?_ | refine g_callT h lv1 ?_)
                                  (conv => arg 1; whnf)
                                  refine st1 ?_
                                  obtain ⟨_, h, hF⟩ := e_bind hF
                                  (first | refine o_ia (enc := eTReach) (s := 9) h (fun _ => rfl) (by decide) ?_ | refine o_iaT (enc := eTReach) (s := 9) h (fun _ => rfl) (by decide) ?_)
                                  intro _
                                  refine st1 ?_
                                  obtain ⟨_, h, hF⟩ := e_bind hF
                                  (first | refine g_call h lv1 ?_ | refine g_callT h lv1 ?_)
                                  (conv => arg 1; whnf)
                                  refine st1 ?_
                                  obtain ⟨_, h, hF⟩ := e_bind hF
                                  (first | refine g_call h lv1 ?_ | refine g_callT h lv1 ?_)
                                  (conv => arg 1; whnf)
                                  refine st1 ?_
                                  obtain ⟨_, h, hF⟩ := e_bind hF
                                  (first | refine g_call h lv1 ?_ | refine g_callT h lv1 ?_)
                                  (conv => arg 1; whnf)
                                  refine st1 ?_
                                  obtain ⟨_, h, hF⟩ := e_bind hF
                                  (first | refine g_call h lv1 ?_ | refine g_callT h lv1 ?_)
                                  (conv => arg 1; whnf)
                                  refine st1 ?_
                                  obtain ⟨_, h, hF⟩ := e_bind hF
                                  (first | refine g_call h lv1 ?_ | refine g_callT h lv1 ?_)
                                  (conv => arg 1; whnf)
                                  refine st1 ?_
                                  obtain ⟨_, h, hF⟩ := e_bind hF
                                  (first | refine g_call h lv1 ?_ | refine g_callT h lv1 ?_)
                                  (conv => arg 1; whnf)
                                  refine st1 ?_
                                  rcases e_bif hF with ⟨hb146, hF⟩ | ⟨hb146, hF⟩ <;> (first | rw [hb146] | (conv => arg 7; rw [hb146]) | (conv => arg 9; rw [hb146]))
                                  · refine st1 ?_
                                    (first | have hF := e_next (e_some hF) | have hF := e_some hF)
                                    have hq : some _ = some _ := hF
                                    cases hq
                                    exact en1
                                  · refine st1 ?_
                                    rcases e_bif hF with ⟨hb147, hF⟩ | ⟨hb147, hF⟩ <;> (first | rw [hb147] | (conv => arg 7; rw [hb147]) | (conv => arg 9; rw [hb147]))
                                    · refine st1 ?_
                                      (first | have hF := e_next (e_some hF) | have hF := e_some hF)
                                      have hq : some _ = some _ := hF
                                      cases hq
                                      exact en1
                                    · refine st1 ?_
                                      rcases e_bif hF with ⟨hb148, hF⟩ | ⟨hb148, hF⟩ <;> (first | rw [hb148] | (conv => arg 7; rw [hb148]) | (conv => arg 9; rw [hb148]))
                                      · refine st1 ?_
                                        (first | have hF := e_next (e_some hF) | have hF := e_some hF)
                                        have hq : some _ = some _ := hF
                                        cases hq
                                        exact en1
                                      · refine st1 ?_
                                        obtain ⟨_, h, hF⟩ := e_bind hF
                                        (first | refine o_ia (enc := eTReach) (s := 9) h (fun _ => rfl) (by decide) ?_ | refine o_iaT (enc := eTReach) (s := 9) h (fun _ => rfl) (by decide) ?_)
                                        intro _
                                        refine st1 ?_
                                        obtain ⟨_, h, hF⟩ := e_bind hF
                                        (first | refine g_call h lv1 ?_ | refine g_callT h lv1 ?_)
                                        (conv => arg 1; whnf)
                                        refine st1 ?_
                                        obtain ⟨_, h, hF⟩ := e_bind hF
                                        (first | refine g_call h lv1 ?_ | refine g_callT h lv1 ?_)
                                        (conv => arg 1; whnf)
                                        refine st1 ?_
                                        refine st_loopF (e_assoc hF) () [(0, _), (1, _), (21, _), (30, _), (83, _), (99, _), (112, _)] ⟨sT, sS, by rfl, by rfl⟩ ?_
                                        · as_aux_lemma =>
                                          rintro n ⟨_, _⟩ _ x hx2 hF
                                          (conv => arg 7; whnf); (conv => arg 8; whnf); (conv => arg 9; whnf)
                                          refine st1 ?_
                                          rcases e_bif hF with ⟨hb153, hF⟩ | ⟨hb153, hF⟩ <;> (first | rw [hb153] | (conv => arg 7; rw [hb153]) | (conv => arg 9; rw [hb153]))
                                          · refine st1 ?_
                                            obtain ⟨_, h, hF⟩ := e_bind hF
                                            (first | refine o_ia (enc := eTShoal) (s := 6) h (fun _ => rfl) (by decide) ?_ | refine o_iaT (enc := eTShoal) (s := 6) h (fun _ => rfl) (by decide) ?_)
                                            intro _
                                            refine st1 ?_
                                            rcases e_bif hF with ⟨hb154, hF⟩ | ⟨hb154, hF⟩ <;> (first | rw [hb154] | (conv => arg 7; rw [hb154]) | (conv => arg 9; rw [hb154]))
                                            · refine st1 ?_
                                              obtain ⟨_, h, hF⟩ := e_bind hF
                                              (first | refine g_call h lv1 ?_ | refine g_callT h lv1 ?_)
                                              (conv => arg 1; whnf)
                                              refine st1 ?_
                                              obtain ⟨_, h, hF⟩ := e_bind hF
                                              (first | refine g_call h lv1 ?_ | refine g_callT h lv1 ?_)
                                              (conv => arg 1; whnf)
                                              refine st1 ?_
                                              obtain ⟨_, h, hF⟩ := e_bind hF
                                              (first | refine g_call h lv1 ?_ | refine g_callT h lv1 ?_)
                                              (conv => arg 1; whnf)
                                              refine st1 ?_
                                              obtain ⟨_, h, hF⟩ := e_bind hF
                                              (first | refine g_call h lv1 ?_ | refine g_callT h lv1 ?_)
                                              (conv => arg 1; whnf)
                                              refine st1 ?_
                                              exact k_loopF (e_some hF) hx2 () [(0, _), (1, _), (21, _), (30, _), (83, _), (99, _), (112, _)] ⟨sT, sS, by rfl, by rfl⟩
                                            · refine st1 ?_
                                              exact k_loopF (e_some hF) hx2 () [(0, _), (1, _), (21, _), (30, _), (83, _), (99, _), (112, _)] ⟨sT, sS, by rfl, by rfl⟩
                                          · refine st1 ?_
                                            (first | have hF := e_next (e_some hF) | have hF := e_some hF)
                                            rcases e_bif hF with ⟨hb155, hF⟩ | ⟨hb155, hF⟩ <;> (first | rw [hb155] | (conv => arg 7; rw [hb155]) | (conv => arg 9; rw [hb155]))
                                            · refine st1 ?_
                                              (first | have hF := e_next (e_some hF) | have hF := e_some hF)
                                              have hq : some _ = some _ := hF
                                              cases hq
                                              exact en1
                                            · refine st1 ?_
                                              rcases e_bif hF with ⟨hb156, hF⟩ | ⟨hb156, hF⟩ <;> (first | rw [hb156] | (conv => arg 7; rw [hb156]) | (conv => arg 9; rw [hb156]))
                                              · refine st1 ?_
                                                (first | have hF := e_next (e_some hF) | have hF := e_some hF)
                                                have hq : some _ = some _ := hF
                                                cases hq
                                                exact en1
                                              · refine st1 ?_
                                                rcases e_bif hF with ⟨hb157, hF⟩ | ⟨hb157, hF⟩ <;> (first | rw [hb157] | (conv => arg 7; rw [hb157]) | (conv => arg 9; rw [hb157]))
                                                · refine st1 ?_
                                                  (first | have hF := e_next (e_some hF) | have hF := e_some hF)
                                                  have hq : some _ = some _ := hF
                                                  cases hq
                                                  exact en1
                                                · refine st1 ?_
                                                  rcases e_bif hF with ⟨hb158, hF⟩ | ⟨hb158, hF⟩ <;> (first | rw [hb158] | (conv => arg 7; rw [hb158]) | (conv => arg 9; rw [hb158]))
                                                  · refine st1 ?_
                                                    (first | have hF := e_next (e_some hF) | have hF := e_some hF)
                                                    have hq : some _ = some _ := hF
                                                    cases hq
                                                    exact en1
                                                  · refine st1 ?_
                                                    rcases e_bif hF with ⟨hb159, hF⟩ | ⟨hb159, hF⟩ <;> (first | rw [hb159] | (conv => arg 7; rw [hb159]) | (conv => arg 9; rw [hb159]))
                                                    · refine st1 ?_
                                                      (first | have hF := e_next (e_some hF) | have hF := e_some hF)
                                                      have hq : some _ = some _ := hF
                                                      cases hq
                                                      exact en1
                                                    · refine st1 ?_
                                                      rcases e_bif hF with ⟨hb160, hF⟩ | ⟨hb160, hF⟩ <;> (first | rw [hb160] | (conv => arg 7; rw [hb160]) | (conv => arg 9; rw [hb160]))
                                                      · refine st1 ?_
                                                        rcases e_bif hF with ⟨hb161, hF⟩ | ⟨hb161, hF⟩ <;> (first | rw [hb161] | (conv => arg 7; rw [hb161]) | (conv => arg 9; rw [hb161]))
                                                        · refine st1 ?_
                                                          exact k_loopF (e_some hF) hx1 () [(0, _), (1, _), (21, _)] ⟨sT, sS, by rfl, by rfl⟩
                                                        · refine st1 ?_
                                                          rcases e_bif hF with ⟨hb162, hF⟩ | ⟨hb162, hF⟩ <;> (first | rw [hb162] | (conv => arg 7; rw [hb162]) | (conv => arg 9; rw [hb162]))
                                                          · refine st1 ?_
                                                            exact k_loopF (e_some hF) hx1 () [(0, _), (1, _), (21, _)] ⟨sT, sS, by rfl, by rfl⟩
                                                          · refine st1 ?_
                                                            exact k_loopF (e_some hF) hx1 () [(0, _), (1, _), (21, _)] ⟨sT, sS, by rfl, by rfl⟩
                                                      · refine st1 ?_
                                                        rcases e_bif hF with ⟨hb163, hF⟩ | ⟨hb163, hF⟩ <;> (first | rw [hb163] | (conv => arg 7; rw [hb163]) | (conv => arg 9; rw [hb163]))
                                                        · refine st1 ?_
                                                          rcases e_bif hF with ⟨hb164, hF⟩ | ⟨hb164, hF⟩ <;> (first | rw [hb164] | (conv => arg 7; rw [hb164]) | (conv => arg 9; rw [hb164]))
                                                          · refine st1 ?_
                                                            exact k_loopF (e_some hF) hx1 () [(0, _), (1, _), (21, _)] ⟨sT, sS, by rfl, by rfl⟩
                                                          · refine st1 ?_
                                                            rcases e_bif hF with ⟨hb165, hF⟩ | ⟨hb165, hF⟩ <;> (first | rw [hb165] | (conv => arg 7; rw [hb165]) | (conv => arg 9; rw [hb165]))
                                                            · refine st1 ?_
                                                              exact k_loopF (e_some hF) hx1 () [(0, _), (1, _), (21, _)] ⟨sT, sS, by rfl, by rfl⟩
                                                            · refine st1 ?_
                                                              exact k_loopF (e_some hF) hx1 () [(0, _), (1, _), (21, _)] ⟨sT, sS, by rfl, by rfl⟩
                                                        · refine st1 ?_
                                                          rcases e_bif hF with ⟨hb166, hF⟩ | ⟨hb166, hF⟩ <;> (first | rw [hb166] | (conv => arg 7; rw [hb166]) | (conv => arg 9; rw [hb166]))
                                                          · refine st1 ?_
                                                            exact k_loopF (e_some hF) hx1 () [(0, _), (1, _), (21, _)] ⟨sT, sS, by rfl, by rfl⟩
                                                          · refine st1 ?_
                                                            rcases e_bif hF with ⟨hb167, hF⟩ | ⟨hb167, hF⟩ <;> (first | rw [hb167] | (conv => arg 7; rw [hb167]) | (conv => arg 9; rw [hb167]))
                                                            · refine st1 ?_
                                                              exact k_loopF (e_some hF) hx1 () [(0, _), (1, _), (21, _)] ⟨sT, sS, by rfl, by rfl⟩
                                                            · refine st1 ?_
                                                              exact k_loopF (e_some hF) hx1 () [(0, _), (1, _), (21, _)] ⟨sT, sS, by rfl, by rfl⟩
                          · refine st1 ?_
                            (first | have hF := e_next (e_some hF) | have hF := e_some hF)
                            rcases e_bif hF with ⟨hb144, hF⟩ | ⟨hb144, hF⟩ <;> (first | rw [hb144] | (conv => arg 7; rw [hb144]) | (conv => arg 9; rw [hb144]))
                            · refine st1 ?_
                              (first | have hF := e_next (e_some hF) | have hF := e_some hF)
                              have hq : some _ = some _ := hF
                              cases hq
                              exact en1
                            · refine st1 ?_
                              obtain ⟨_, h, hF⟩ := e_bind hF
                              (first | refine o_ia (enc := (eS eTBounds)) (s := 1) h (fun _ => rfl) (by decide) ?_ | refine o_iaT (enc := (eS eTBounds)) (s := 1) h (fun _ => rfl) (by decide) ?_)
                              intro _
                              refine st1 ?_
                              rcases e_bif hF with ⟨hb145, hF⟩ | ⟨hb145, hF⟩ <;> (first | rw [hb145] | (conv => arg 7; rw [hb145]) | (conv => arg 9; rw [hb145]))
                              · refine st1 ?_
                                (first | have hF := e_next (e_some hF) | have hF := e_some hF)
                                have hq : some _ = some _ := hF
                                cases hq
                                exact en1
                              · refine st1 ?_
                                obtain ⟨_, h, hF⟩ := e_bind hF
                                (first | refine g_call h lv1 ?_ | refine g_callT h lv1 ?_)
                                (conv => arg 1; whnf)
                                refine st1 ?_
                                obtain ⟨_, h, hF⟩ := e_bind hF
                                (first | refine g_call h lv1 ?_ | refine g_callT h lv1 ?_)
                                (conv => arg 1; whnf)
                                refine st1 ?_
                                obtain ⟨_, h, hF⟩ := e_bind hF
                                (first | refine o_ia (enc := eTReach) (s := 9) h (fun _ => rfl) (by decide) ?_ | refine o_iaT (enc := eTReach) (s := 9) h (fun _ => rfl) (by decide) ?_)
                                intro _
                                refine st1 ?_
                                obtain ⟨_, h, hF⟩ := e_bind hF
                                (first | refine g_call h lv1 ?_ | refine g_callT h lv1 ?_)
                                (conv => arg 1; whnf)
                                refine st1 ?_
                                obtain ⟨_, h, hF⟩ := e_bind hF
                                (first | refine g_call h lv1 ?_ | refine g_callT h lv1 ?_)
                                (conv => arg 1; whnf)
                                refine st1 ?_
                                obtain ⟨_, h, hF⟩ := e_bind hF
                                (first | refine g_call h lv1 ?_ | refine g_callT h lv1 ?_)
                                (conv => arg 1; whnf)
                                refine st1 ?_
                                obtain ⟨_, h, hF⟩ := e_bind hF
                                (first | refine g_call h lv1 ?_ | refine g_callT h lv1 ?_)
                                (conv => arg 1; whnf)
                                refine st1 ?_
                                obtain ⟨_, h, hF⟩ := e_bind hF
                                (first | refine g_call h lv1 ?_ | refine g_callT h lv1 ?_)
                                (conv => arg 1; whnf)
                                refine st1 ?_
                                obtain ⟨_, h, hF⟩ := e_bind hF
                                (first | refine g_call h lv1 ?_ | refine g_callT h lv1 ?_)
                                (conv => arg 1; whnf)
                                refine st1 ?_
                                rcases e_bif hF with ⟨hb146, hF⟩ | ⟨hb146, hF⟩ <;> (first | rw [hb146] | (conv => arg 7; rw [hb146]) | (conv => arg 9; rw [hb146]))
                                · refine st1 ?_
                                  (first | have hF := e_next (e_some hF) | have hF := e_some hF)
                                  have hq : some _ = some _ := hF
                                  cases hq
                                  exact en1
                                · refine st1 ?_
                                  rcases e_bif hF with ⟨hb147, hF⟩ | ⟨hb147, hF⟩ <;> (first | rw [hb147] | (conv => arg 7; rw [hb147]) | (conv => arg 9; rw [hb147]))
                                  · refine st1 ?_
                                    (first | have hF := e_next (e_some hF) | have hF := e_some hF)
                                    have hq : some _ = some _ := hF
                                    cases hq
                                    exact en1
                                  · refine st1 ?_
                                    rcases e_bif hF with ⟨hb148, hF⟩ | ⟨hb148, hF⟩ <;> (first | rw [hb148] | (conv => arg 7; rw [hb148]) | (conv => arg 9; rw [hb148]))
                                    · refine st1 ?_
                                      (first | have hF := e_next (e_some hF) | have hF := e_some hF)
                                      have hq : some _ = some _ := hF
                                      cases hq
                                      exact en1
                                    · refine st1 ?_
                                      obtain ⟨_, h, hF⟩ := e_bind hF
                                      (first | refine o_ia (enc := eTReach) (s := 9) h (fun _ => rfl) (by decide) ?_ | refine o_iaT (enc := eTReach) (s := 9) h (fun _ => rfl) (by decide) ?_)
                                      intro _
                                      refine st1 ?_
                                      obtain ⟨_, h, hF⟩ := e_bind hF
                                      (first | refine g_call h lv1 ?_ | refine g_callT h lv1 ?_)
                                      (conv => arg 1; whnf)
                                      refine st1 ?_
                                      obtain ⟨_, h, hF⟩ := e_bind hF
                                      (first | refine g_call h lv1 ?_ | refine g_callT h lv1 ?_)
                                      (conv => arg 1; whnf)
                                      refine st1 ?_
                                      refine st_loopF (e_assoc hF) () [(0, _), (1, _), (21, _), (30, _), (83, _), (99, _), (112, _)] ⟨sT, sS, by rfl, by rfl⟩ ?_
                                      · as_aux_lemma =>
                                        rintro n ⟨_, _⟩ _ x hx2 hF
                                        (conv => arg 7; whnf); (conv => arg 8; whnf); (conv => arg 9; whnf)
                                        refine st1 ?_
                                        rcases e_bif hF with ⟨hb153, hF⟩ | ⟨hb153, hF⟩ <;> (first | rw [hb153] | (conv => arg 7; rw [hb153]) | (conv => arg 9; rw [hb153]))
                                        · refine st1 ?_
                                          obtain ⟨_, h, hF⟩ := e_bind hF
                                          (first | refine o_ia (enc := eTShoal) (s := 6) h (fun _ => rfl) (by decide) ?_ | refine o_iaT (enc := eTShoal) (s := 6) h (fun _ => rfl) (by decide) ?_)
                                          intro _
                                          refine st1 ?_
                                          rcases e_bif hF with ⟨hb154, hF⟩ | ⟨hb154, hF⟩ <;> (first | rw [hb154] | (conv => arg 7; rw [hb154]) | (conv => arg 9; rw [hb154]))
                                          · refine st1 ?_
                                            obtain ⟨_, h, hF⟩ := e_bind hF
                                            (first | refine g_call h lv1 ?_ | refine g_callT h lv1 ?_)
                                            (conv => arg 1; whnf)
                                            refine st1 ?_
                                            obtain ⟨_, h, hF⟩ := e_bind hF
                                            (first | refine g_call h lv1 ?_ | refine g_callT h lv1 ?_)
                                            (conv => arg 1; whnf)
                                            refine st1 ?_
                                            obtain ⟨_, h, hF⟩ := e_bind hF
                                            (first | refine g_call h lv1 ?_ | refine g_callT h lv1 ?_)
                                            (conv => arg 1; whnf)
                                            refine st1 ?_
                                            obtain ⟨_, h, hF⟩ := e_bind hF
                                            (first | refine g_call h lv1 ?_ | refine g_callT h lv1 ?_)
                                            (conv => arg 1; whnf)
                                            refine st1 ?_
                                            exact k_loopF (e_some hF) hx2 () [(0, _), (1, _), (21, _), (30, _), (83, _), (99, _), (112, _)] ⟨sT, sS, by rfl, by rfl⟩
                                          · refine st1 ?_
                                            exact k_loopF (e_some hF) hx2 () [(0, _), (1, _), (21, _), (30, _), (83, _), (99, _), (112, _)] ⟨sT, sS, by rfl, by rfl⟩
                                        · refine st1 ?_
                                          (first | have hF := e_next (e_some hF) | have hF := e_some hF)
                                          rcases e_bif hF with ⟨hb155, hF⟩ | ⟨hb155, hF⟩ <;> (first | rw [hb155] | (conv => arg 7; rw [hb155]) | (conv => arg 9; rw [hb155]))
                                          · refine st1 ?_
                                            (first | have hF := e_next (e_some hF) | have hF := e_some hF)
                                            have hq : some _ = some _ := hF
                                            cases hq
                                            exact en1
                                          · refine st1 ?_
                                            rcases e_bif hF with ⟨hb156, hF⟩ | ⟨hb156, hF⟩ <;> (first | rw [hb156] | (conv => arg 7; rw [hb156]) | (conv => arg 9; rw [hb156]))
                                            · refine st1 ?_
                                              (first | have hF := e_next (e_some hF) | have hF := e_some hF)
                                              have hq : some _ = some _ := hF
                                              cases hq
                                              exact en1
                                            · refine st1 ?_
                                              rcases e_bif hF with ⟨hb157, hF⟩ | ⟨hb157, hF⟩ <;> (first | rw [hb157] | (conv => arg 7; rw [hb157]) | (conv => arg 9; rw [hb157]))
                                              · refine st1 ?_
                                                (first | have hF := e_next (e_some hF) | have hF := e_some hF)
                                                have hq : some _ = some _ := hF
                                                cases hq
                                                exact en1
                                              · refine st1 ?_
                                                rcases e_bif hF with ⟨hb158, hF⟩ | ⟨hb158, hF⟩ <;> (first | rw [hb158] | (conv => arg 7; rw [hb158]) | (conv => arg 9; rw [hb158]))
                                                · refine st1 ?_
                                                  (first | have hF := e_next (e_some hF) | have hF := e_some hF)
                                                  have hq : some _ = some _ := hF
                                                  cases hq
                                                  exact en1
                                                · refine st1 ?_
                                                  rcases e_bif hF with ⟨hb159, hF⟩ | ⟨hb159, hF⟩ <;> (first | rw [hb159] | (conv => arg 7; rw [hb159]) | (conv => arg 9; rw [hb159]))
                                                  · refine st1 ?_
                                                    (first | have hF := e_next (e_some hF) | have hF := e_some hF)
                                                    have hq : some _ = some _ := hF
                                                    cases hq
                                                    exact en1
                                                  · refine st1 ?_
                                                    rcases e_bif hF with ⟨hb160, hF⟩ | ⟨hb160, hF⟩ <;> (first | rw [hb160] | (conv => arg 7; rw [hb160]) | (conv => arg 9; rw [hb160]))
                                                    · refine st1 ?_
                                                      rcases e_bif hF with ⟨hb161, hF⟩ | ⟨hb161, hF⟩ <;> (first | rw [hb161] | (conv => arg 7; rw [hb161]) | (conv => arg 9; rw [hb161]))
                                                      · refine st1 ?_
                                                        exact k_loopF (e_some hF) hx1 () [(0, _), (1, _), (21, _)] ⟨sT, sS, by rfl, by rfl⟩
                                                      · refine st1 ?_
                                                        rcases e_bif hF with ⟨hb162, hF⟩ | ⟨hb162, hF⟩ <;> (first | rw [hb162] | (conv => arg 7; rw [hb162]) | (conv => arg 9; rw [hb162]))
                                                        · refine st1 ?_
                                                          exact k_loopF (e_some hF) hx1 () [(0, _), (1, _), (21, _)] ⟨sT, sS, by rfl, by rfl⟩
                                                        · refine st1 ?_
                                                          exact k_loopF (e_some hF) hx1 () [(0, _), (1, _), (21, _)] ⟨sT, sS, by rfl, by rfl⟩
                                                    · refine st1 ?_
                                                      rcases e_bif hF with ⟨hb163, hF⟩ | ⟨hb163, hF⟩ <;> (first | rw [hb163] | (conv => arg 7; rw [hb163]) | (conv => arg 9; rw [hb163]))
                                                      · refine st1 ?_
                                                        rcases e_bif hF with ⟨hb164, hF⟩ | ⟨hb164, hF⟩ <;> (first | rw [hb164] | (conv => arg 7; rw [hb164]) | (conv => arg 9; rw [hb164]))
                                                        · refine st1 ?_
                                                          exact k_loopF (e_some hF) hx1 () [(0, _), (1, _), (21, _)] ⟨sT, sS, by rfl, by rfl⟩
                                                        · refine st1 ?_
                                                          rcases e_bif hF with ⟨hb165, hF⟩ | ⟨hb165, hF⟩ <;> (first | rw [hb165] | (conv => arg 7; rw [hb165]) | (conv => arg 9; rw [hb165]))
                                                          · refine st1 ?_
                                                            exact k_loopF (e_some hF) hx1 () [(0, _), (1, _), (21, _)] ⟨sT, sS, by rfl, by rfl⟩
                                                          · refine st1 ?_
                                                            exact k_loopF (e_some hF) hx1 () [(0, _), (1, _), (21, _)] ⟨sT, sS, by rfl, by rfl⟩
                                                      · refine st1 ?_
                                                        rcases e_bif hF with ⟨hb166, hF⟩ | ⟨hb166, hF⟩ <;> (first | rw [hb166] | (conv => arg 7; rw [hb166]) | (conv => arg 9; rw [hb166]))
                                                        · refine st1 ?_
                                                          exact k_loopF (e_some hF) hx1 () [(0, _), (1, _), (21, _)] ⟨sT, sS, by rfl, by rfl⟩
                                                        · refine st1 ?_
                                                          rcases e_bif hF with ⟨hb167, hF⟩ | ⟨hb167, hF⟩ <;> (first | rw [hb167] | (conv => arg 7; rw [hb167]) | (conv => arg 9; rw [hb167]))
                                                          · refine st1 ?_
                                                            exact k_loopF (e_some hF) hx1 () [(0, _), (1, _), (21, _)] ⟨sT, sS, by rfl, by rfl⟩
                                                          · refine st1 ?_
                                                            exact k_loopF (e_some hF) hx1 () [(0, _), (1, _), (21, _)] ⟨sT, sS, by rfl, by rfl⟩
                      · refine st1 ?_
                        (first | have hF := e_next (e_some hF) | have hF := e_some hF)
                        rcases e_bif hF with ⟨hb168, hF⟩ | ⟨hb168, hF⟩ <;> (first | rw [hb168] | (conv => arg 7; rw [hb168]) | (conv => arg 9; rw [hb168]))
                        · refine st1 ?_
                          rcases e_bif hF with ⟨hb169, hF⟩ | ⟨hb169, hF⟩ <;> (first | rw [hb169] | (conv => arg 7; rw [hb169]) | (conv => arg 9; rw [hb169]))
                          · refine st1 ?_
                            obtain ⟨_, h, hF⟩ := e_bind hF
                            (first | refine g_call h lv1 ?_ | refine g_callT h lv1 ?_)
                            (conv => arg 1; whnf)
                            refine st1 ?_
                            have hq : some _ = some _ := hF
                            cases hq
                            exact en1
                          · refine st1 ?_
                            have hq : some _ = some _ := hF
                            cases hq
                            exact en1
                        · refine st1 ?_
                          have hq : some _ = some _ := hF
                          cases hq
                          exact en1

end Go.Ev
