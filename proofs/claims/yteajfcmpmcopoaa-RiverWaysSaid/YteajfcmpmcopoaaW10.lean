/- A part of the proof of RiverWays. -/
import Derived.Test.YteajfcmpmcopoaaW9
/- The functions do what is said. -/
set_option linter.unusedVariables false
set_option linter.unusedSimpArgs false
namespace Go.Ev
open Go.Proofs
set_option maxHeartbeats 8000000
set_option maxRecDepth 100000
@[reducible] noncomputable def c_thalweglaw01_in : Con := conF F_thalweglaw01_in (fun x => match x with | (a0, a1) => [(V.agg (eTBounds a0)), (V.v (.int .i64 (a1)))]) (fun r => (V.v (.bool (r))))
theorem h_thalweglaw01_in : Has Try.prog 52 c_thalweglaw01_in := by
  refine hasF ctx_nil mix Try.func52 rfl (by kernel_rfl) ?_
  rintro ⟨a0, a1⟩ r hF
  refine ⟨of_decide_eq_true rfl, ?_⟩
  refine st1 ?_
  rcases e_bif hF with ⟨hb1, hF⟩ | ⟨hb1, hF⟩ <;> (first | rw [hb1] | (conv => arg 7; rw [hb1]) | (conv => arg 9; rw [hb1]))
  · refine st1 ?_
    have hq : some _ = some _ := hF
    cases hq
    exact en1
  · refine st1 ?_
    have hq : some _ = some _ := hF
    cases hq
    exact en1


@[reducible] noncomputable def c_thalweglaw01_RiverWays : Con := conF F_thalweglaw01_RiverWays (fun x => match x with | (a0, a1, a2) => [(V.agg (eTthalweglaw01_Forecast a0)), (V.sl (recs eTPass (a1)) (a1).length), (V.v (.int .u8 (a2)))]) (fun r => (V.v (.bool (r))))
theorem fl_thalweglaw01_RiverWays_27 : flatOf Try.prog 9 27 = some [true, true] := by kernel_rfl
theorem eg_thalweglaw01_RiverWays_27 : Try.prog.eqGuardType Try.prog.depth 27 = false := by kernel_rfl
theorem ag_thalweglaw01_RiverWays_27 : aggOf Try.prog 27 = some true := by kernel_rfl
theorem h_thalweglaw01_RiverWays : Has Try.prog 15 c_thalweglaw01_RiverWays := by
  refine hasF (ctx_cons h_thalweglaw01_in (ctx_cons h_thalweglaw01_valid (ctx_cons h_river_Shallowest (ctx_cons h_river_Depth (ctx_cons h_thalweglaw01_forecast (ctx_cons h_thalweglaw01_copied (ctx_cons h_thalweglaw01_known ctx_nil))))))) mix Try.func15 rfl (by kernel_rfl) ?_
  rintro ⟨a0, a1, a2⟩ r hF
  refine ⟨of_decide_eq_true rfl, ?_⟩
  refine st1 ?_
  obtain ⟨_, h, hF⟩ := e_bind hF
  (first | refine g_call h lv1 ?_ | refine g_callT h lv1 ?_)
  (conv => arg 1; whnf)
  refine st1 ?_
  rcases e_bif hF with ⟨hb1, hF⟩ | ⟨hb1, hF⟩ <;> (first | rw [hb1] | (conv => arg 7; rw [hb1]) | (conv => arg 9; rw [hb1]))
  · refine st1 ?_
    obtain ⟨_, h, hF⟩ := e_bind hF
    (first | refine g_call h lv1 ?_ | refine g_callT h lv1 ?_)
    (conv => arg 1; whnf)
    refine st1 ?_
    have hq : some _ = some _ := hF
    cases hq
    exact en1
  · refine st1 ?_
    rcases e_bif hF with ⟨hb2, hF⟩ | ⟨hb2, hF⟩ <;> (first | rw [hb2] | (conv => arg 7; rw [hb2]) | (conv => arg 9; rw [hb2]))
    · refine st1 ?_
      obtain ⟨_, h, hF⟩ := e_bind hF
      (first | refine g_call h lv1 ?_ | refine g_callT h lv1 ?_)
      (conv => arg 1; whnf)
      refine st1 ?_
      have hq : some _ = some _ := hF
      cases hq
      exact en1
    · refine st1 ?_
      rcases e_bif hF with ⟨hb3, hF⟩ | ⟨hb3, hF⟩ <;> (first | rw [hb3] | (conv => arg 7; rw [hb3]) | (conv => arg 9; rw [hb3]))
      · refine st1 ?_
        obtain ⟨_, h, hF⟩ := e_bind hF
        (first | refine g_call h lv1 ?_ | refine g_callT h lv1 ?_)
        (conv => arg 1; whnf)
        refine st1 ?_
        have hq : some _ = some _ := hF
        cases hq
        exact en1
      · refine st1 ?_
        obtain ⟨_, h, hF⟩ := e_bind hF
        (first | refine g_call h lv1 ?_ | refine g_callT h lv1 ?_)
        (conv => arg 1; whnf)
        refine st1 ?_
        obtain ⟨_, h, hF⟩ := e_bind hF
        (first | refine g_call h lv1 ?_ | refine g_callT h lv1 ?_)
        (conv => arg 1; whnf)
        refine st1 ?_
        obtain ⟨_, h, hF⟩ := e_bind hF
        (first | refine o_app (enc := eTPass) (s := 3) h (fun _ => rfl) ?_ | refine o_appT (enc := eTPass) (s := 3) h (fun _ => rfl) ?_)
        refine st1 ?_
        obtain ⟨_, h, hF⟩ := e_bind hF
        (first | refine g_call h lv1 ?_ | refine g_callT h lv1 ?_)
        (conv => arg 1; whnf)
        refine st1 ?_
        rcases e_bif hF with ⟨hb4, hF⟩ | ⟨hb4, hF⟩ <;> (first | rw [hb4] | (conv => arg 7; rw [hb4]) | (conv => arg 9; rw [hb4]))
        · refine st1 ?_
          rcases e_bif hF with ⟨hb5, hF⟩ | ⟨hb5, hF⟩ <;> (first | rw [hb5] | (conv => arg 7; rw [hb5]) | (conv => arg 9; rw [hb5]))
          · refine st1 ?_
            rcases e_bif hF with ⟨hb6, hF⟩ | ⟨hb6, hF⟩ <;> (first | rw [hb6] | (conv => arg 7; rw [hb6]) | (conv => arg 9; rw [hb6]))
            · refine st1 ?_
              rcases e_bif hF with ⟨hb7, hF⟩ | ⟨hb7, hF⟩ <;> (first | rw [hb7] | (conv => arg 7; rw [hb7]) | (conv => arg 9; rw [hb7]))
              · refine st1 ?_
                obtain ⟨_, h, hF⟩ := e_bind hF
                (first | refine g_call h lv1 ?_ | refine g_callT h lv1 ?_)
                (conv => arg 1; whnf)
                refine st1 ?_
                have hq : some _ = some _ := hF
                cases hq
                exact en1
              · refine st1 ?_
                have hq : some _ = some _ := hF
                cases hq
                exact en1
            · refine st1 ?_
              have hq : some _ = some _ := hF
              cases hq
              exact en1
          · refine st1 ?_
            rcases e_bif hF with ⟨hb8, hF⟩ | ⟨hb8, hF⟩ <;> (first | rw [hb8] | (conv => arg 7; rw [hb8]) | (conv => arg 9; rw [hb8]))
            · refine st1 ?_
              rcases e_bif hF with ⟨hb9, hF⟩ | ⟨hb9, hF⟩ <;> (first | rw [hb9] | (conv => arg 7; rw [hb9]) | (conv => arg 9; rw [hb9]))
              · refine st1 ?_
                rcases e_bif hF with ⟨hb10, hF⟩ | ⟨hb10, hF⟩ <;> (first | rw [hb10] | (conv => arg 7; rw [hb10]) | (conv => arg 9; rw [hb10]))
                · refine st1 ?_
                  obtain ⟨_, h, hF⟩ := e_bind hF
                  (first | refine g_call h lv1 ?_ | refine g_callT h lv1 ?_)
                  (conv => arg 1; whnf)
                  refine st1 ?_
                  have hq : some _ = some _ := hF
                  cases hq
                  exact en1
                · refine st1 ?_
                  have hq : some _ = some _ := hF
                  cases hq
                  exact en1
              · refine st1 ?_
                have hq : some _ = some _ := hF
                cases hq
                exact en1
            · refine st1 ?_
              have hq : some _ = some _ := hF
              cases hq
              exact en1
        · refine st1 ?_
          rcases e_bif hF with ⟨hb11, hF⟩ | ⟨hb11, hF⟩ <;> (first | rw [hb11] | (conv => arg 7; rw [hb11]) | (conv => arg 9; rw [hb11]))
          · refine st1 ?_
            have hq : some _ = some _ := hF
            cases hq
            exact en1
          · refine st1 ?_
            rcases e_bif hF with ⟨hb12, hF⟩ | ⟨hb12, hF⟩ <;> (first | rw [hb12] | (conv => arg 7; rw [hb12]) | (conv => arg 9; rw [hb12]))
            · refine st1 ?_
              have hq : some _ = some _ := hF
              cases hq
              exact en1
            · refine st1 ?_
              obtain ⟨_, h, hF⟩ := e_bind hF
              (first | refine o_ia (enc := eTPass) (s := 3) h (fun _ => rfl) (by decide) ?_ | refine o_iaT (enc := eTPass) (s := 3) h (fun _ => rfl) (by decide) ?_)
              intro _
              refine st1 ?_
              obtain ⟨_, h, hF⟩ := e_bind hF
              (first | refine g_call h lv1 ?_ | refine g_callT h lv1 ?_)
              (conv => arg 1; whnf)
              refine st1 ?_
              rcases e_bif hF with ⟨hb13, hF⟩ | ⟨hb13, hF⟩ <;> (first | rw [hb13] | (conv => arg 7; rw [hb13]) | (conv => arg 9; rw [hb13]))
              · refine st1 ?_
                have hq : some _ = some _ := hF
                cases hq
                exact en1
              · refine st1 ?_
                rcases e_bif hF with ⟨hb14, hF⟩ | ⟨hb14, hF⟩ <;> (first | rw [hb14] | (conv => arg 7; rw [hb14]) | (conv => arg 9; rw [hb14]))
                · refine st1 ?_
                  have hq : some _ = some _ := hF
                  cases hq
                  exact en1
                · refine st1 ?_
                  rcases e_bif hF with ⟨hb15, hF⟩ | ⟨hb15, hF⟩ <;> (first | rw [hb15] | (conv => arg 7; rw [hb15]) | (conv => arg 9; rw [hb15]))
                  · refine st1 ?_
                    have hq : some _ = some _ := hF
                    cases hq
                    exact en1
                  · refine st1 ?_
                    obtain ⟨_, h, hF⟩ := e_bind hF
                    (first | refine g_call h lv1 ?_ | refine g_callT h lv1 ?_)
                    (conv => arg 1; whnf)
                    refine st1 ?_
                    obtain ⟨_, h, hF⟩ := e_bind hF
                    (first | refine g_call h lv1 ?_ | refine g_callT h lv1 ?_)
                    (conv => arg 1; whnf)
                    refine st1 ?_
                    obtain ⟨_, h, hF⟩ := e_bind hF
                    (first | refine o_ia (enc := eTPass) (s := 3) h (fun _ => rfl) (by decide) ?_ | refine o_iaT (enc := eTPass) (s := 3) h (fun _ => rfl) (by decide) ?_)
                    intro _
                    refine st1 ?_
                    obtain ⟨_, h, hF⟩ := e_bind hF
                    (first | refine g_call h lv1 ?_ | refine g_callT h lv1 ?_)
                    (conv => arg 1; whnf)
                    refine st1 ?_
                    rcases e_bif hF with ⟨hb16, hF⟩ | ⟨hb16, hF⟩ <;> (first | rw [hb16] | (conv => arg 7; rw [hb16]) | (conv => arg 9; rw [hb16]))
                    · refine st1 ?_
                      have hq : some _ = some _ := hF
                      cases hq
                      exact en1
                    · refine st1 ?_
                      rcases e_bif hF with ⟨hb17, hF⟩ | ⟨hb17, hF⟩ <;> (first | rw [hb17] | (conv => arg 7; rw [hb17]) | (conv => arg 9; rw [hb17]))
                      · refine st1 ?_
                        have hq : some _ = some _ := hF
                        cases hq
                        exact en1
                      · refine st1 ?_
                        refine st_loopF (e_assoc hF) () [(0, _), (30, _)] ⟨sT, sS, by rfl, by rfl⟩ ?_
                        · rintro n _ _ x hx1 hF
                          (conv => arg 7; whnf); (conv => arg 8; whnf); (conv => arg 9; whnf)
                          refine st1 ?_
                          rcases e_bif hF with ⟨hb38, hF⟩ | ⟨hb38, hF⟩ <;> (first | rw [hb38] | (conv => arg 7; rw [hb38]) | (conv => arg 9; rw [hb38]))
                          · refine st1 ?_
                            obtain ⟨_, h, hF⟩ := e_bind hF
                            (first | refine o_ia (enc := eTPass) (s := 3) h (fun _ => rfl) (by decide) ?_ | refine o_iaT (enc := eTPass) (s := 3) h (fun _ => rfl) (by decide) ?_)
                            intro _
                            refine st1 ?_
                            rcases e_bif hF with ⟨hb39, hF⟩ | ⟨hb39, hF⟩ <;> (first | rw [hb39] | (conv => arg 7; rw [hb39]) | (conv => arg 9; rw [hb39]))
                            · refine st1 ?_
                              have hF := e_some hF
                              have hq : some _ = some _ := hF
                              cases hq
                              exact en1
                            · refine st1 ?_
                              rcases e_bif hF with ⟨hb40, hF⟩ | ⟨hb40, hF⟩ <;> (first | rw [hb40] | (conv => arg 7; rw [hb40]) | (conv => arg 9; rw [hb40]))
                              · refine st1 ?_
                                have hF := e_some hF
                                have hq : some _ = some _ := hF
                                cases hq
                                exact en1
                              · refine st1 ?_
                                obtain ⟨_, h, hF⟩ := e_bind hF
                                (first | refine o_ia (enc := (eS eTBounds)) (s := 1) h (fun _ => rfl) (by decide) ?_ | refine o_iaT (enc := (eS eTBounds)) (s := 1) h (fun _ => rfl) (by decide) ?_)
                                intro _
                                refine st1 ?_
                                rcases e_bif hF with ⟨hb41, hF⟩ | ⟨hb41, hF⟩ <;> (first | rw [hb41] | (conv => arg 7; rw [hb41]) | (conv => arg 9; rw [hb41]))
                                · refine st1 ?_
                                  have hF := e_some hF
                                  have hq : some _ = some _ := hF
                                  cases hq
                                  exact en1
                                · refine st1 ?_
                                  obtain ⟨_, h, hF⟩ := e_bind hF
                                  (first | refine o_ia (enc := eTPass) (s := 3) h (fun _ => rfl) (by decide) ?_ | refine o_iaT (enc := eTPass) (s := 3) h (fun _ => rfl) (by decide) ?_)
                                  intro _
                                  refine st1 ?_
                                  obtain ⟨_, h, hF⟩ := e_bind hF
                                  (first | refine o_ia (enc := eTPass) (s := 3) h (fun _ => rfl) (by decide) ?_ | refine o_iaT (enc := eTPass) (s := 3) h (fun _ => rfl) (by decide) ?_)
                                  intro _
                                  refine st1 ?_
                                  obtain ⟨_, h, hF⟩ := e_bind hF
                                  (first | refine o_ia (enc := eTPass) (s := 3) h (fun _ => rfl) (by decide) ?_ | refine o_iaT (enc := eTPass) (s := 3) h (fun _ => rfl) (by decide) ?_)
                                  intro _
                                  refine st1 ?_
                                  obtain ⟨_, h, hF⟩ := e_bind hF
                                  (first | refine go_req (nz_ne h) ?_ | refine goT_req (nz_ne h) ?_)
                                  (conv => arg 1; whnf)
                                  refine st1 ?_
                                  obtain ⟨_, h, hF⟩ := e_bind hF
                                  (first | refine g_call h lv1 ?_ | refine g_callT h lv1 ?_)
                                  (conv => arg 1; whnf)
                                  refine st1 ?_
                                  obtain ⟨_, h, hF⟩ := e_bind hF
                                  (first | refine g_call h lv1 ?_ | refine g_callT h lv1 ?_)
                                  (conv => arg 1; whnf)
                                  refine st1 ?_
                                  obtain ⟨_, h, hF⟩ := e_bind hF
                                  (first | refine o_ia (enc := eTPass) (s := 3) h (fun _ => rfl) (by decide) ?_ | refine o_iaT (enc := eTPass) (s := 3) h (fun _ => rfl) (by decide) ?_)
                                  intro _
                                  refine st1 ?_
                                  obtain ⟨_, h, hF⟩ := e_bind hF
                                  (first | refine g_call h lv1 ?_ | refine g_callT h lv1 ?_)
                                  (conv => arg 1; whnf)
                                  refine st1 ?_
                                  rcases e_bif hF with ⟨hb42, hF⟩ | ⟨hb42, hF⟩ <;> (first | rw [hb42] | (conv => arg 7; rw [hb42]) | (conv => arg 9; rw [hb42]))
                                  · refine st1 ?_
                                    have hF := e_some hF
                                    have hq : some _ = some _ := hF
                                    cases hq
                                    exact en1
                                  · refine st1 ?_
                                    rcases e_bif hF with ⟨hb43, hF⟩ | ⟨hb43, hF⟩ <;> (first | rw [hb43] | (conv => arg 7; rw [hb43]) | (conv => arg 9; rw [hb43]))
                                    · refine st1 ?_
                                      have hF := e_some hF
                                      have hq : some _ = some _ := hF
                                      cases hq
                                      exact en1
                                    · refine st1 ?_
                                      rcases e_bif hF with ⟨hb44, hF⟩ | ⟨hb44, hF⟩ <;> (first | rw [hb44] | (conv => arg 7; rw [hb44]) | (conv => arg 9; rw [hb44]))
                                      · refine st1 ?_
                                        rcases e_bif hF with ⟨hb45, hF⟩ | ⟨hb45, hF⟩ <;> (first | rw [hb45] | (conv => arg 7; rw [hb45]) | (conv => arg 9; rw [hb45]))
                                        · refine st1 ?_
                                          have hF := e_some hF
                                          have hq : some _ = some _ := hF
                                          cases hq
                                          exact en1
                                        · refine st1 ?_
                                          rcases e_bif hF with ⟨hb46, hF⟩ | ⟨hb46, hF⟩ <;> (first | rw [hb46] | (conv => arg 7; rw [hb46]) | (conv => arg 9; rw [hb46]))
                                          · refine st1 ?_
                                            rcases e_bif hF with ⟨hb47, hF⟩ | ⟨hb47, hF⟩ <;> (first | rw [hb47] | (conv => arg 7; rw [hb47]) | (conv => arg 9; rw [hb47]))
                                            · refine st1 ?_
                                              have hF := e_some hF
                                              have hq : some _ = some _ := hF
                                              cases hq
                                              exact en1
                                            · refine st1 ?_
                                              exact k_loopF (e_some hF) hx1 () [(0, _), (30, _)] ⟨sT, sS, by rfl, by rfl⟩
                                          · refine st1 ?_
                                            exact k_loopF (e_some hF) hx1 () [(0, _), (30, _)] ⟨sT, sS, by rfl, by rfl⟩
                                      · refine st1 ?_
                                        exact k_loopF (e_some hF) hx1 () [(0, _), (30, _)] ⟨sT, sS, by rfl, by rfl⟩
                          · refine st1 ?_
                            have hF := e_some hF
                            obtain ⟨_, h, hF⟩ := e_bind hF
                            (first | refine go_req (nz_ne h) ?_ | refine goT_req (nz_ne h) ?_)
                            (conv => arg 1; whnf)
                            refine st1 ?_
                            rcases e_bif hF with ⟨hb48, hF⟩ | ⟨hb48, hF⟩ <;> (first | rw [hb48] | (conv => arg 7; rw [hb48]) | (conv => arg 9; rw [hb48]))
                            · refine st1 ?_
                              obtain ⟨_, h, hF⟩ := e_bind hF
                              (first | refine g_call h lv1 ?_ | refine g_callT h lv1 ?_)
                              (conv => arg 1; whnf)
                              refine st1 ?_
                              obtain ⟨_, h, hF⟩ := e_bind hF
                              (first | refine g_call h lv1 ?_ | refine g_callT h lv1 ?_)
                              (conv => arg 1; whnf)
                              refine st1 ?_
                              obtain ⟨_, h, hF⟩ := e_bind hF
                              (first | refine o_slc (enc := eTPass) (s := 3) h (fun _ => rfl) ?_ | refine o_slcT (enc := eTPass) (s := 3) h (fun _ => rfl) ?_)
                              refine st1 ?_
                              obtain ⟨_, h, hF⟩ := e_bind hF
                              (first | refine o_app (enc := eTPass) (s := 3) h (fun _ => rfl) ?_ | refine o_appT (enc := eTPass) (s := 3) h (fun _ => rfl) ?_)
                              refine st1 ?_
                              obtain ⟨_, h, hF⟩ := e_bind hF
                              (first | refine g_call h lv1 ?_ | refine g_callT h lv1 ?_)
                              (conv => arg 1; whnf)
                              refine st1 ?_
                              obtain ⟨_, h, hF⟩ := e_bind hF
                              (first | refine g_call h lv1 ?_ | refine g_callT h lv1 ?_)
                              (conv => arg 1; whnf)
                              refine st1 ?_
                              obtain ⟨_, h, hF⟩ := e_bind hF
                              (first | refine g_call h lv1 ?_ | refine g_callT h lv1 ?_)
                              (conv => arg 1; whnf)
                              refine st1 ?_
                              obtain ⟨_, h, hF⟩ := e_bind hF
                              (first | refine o_slc (enc := eTPass) (s := 3) h (fun _ => rfl) ?_ | refine o_slcT (enc := eTPass) (s := 3) h (fun _ => rfl) ?_)
                              refine st1 ?_
                              obtain ⟨_, h, hF⟩ := e_bind hF
                              (first | refine o_app (enc := eTPass) (s := 3) h (fun _ => rfl) ?_ | refine o_appT (enc := eTPass) (s := 3) h (fun _ => rfl) ?_)
                              refine st1 ?_
                              obtain ⟨_, h, hF⟩ := e_bind hF
                              (first | refine g_call h lv1 ?_ | refine g_callT h lv1 ?_)
                              (conv => arg 1; whnf)
                              refine st1 ?_
                              rcases e_bif hF with ⟨hb49, hF⟩ | ⟨hb49, hF⟩ <;> (first | rw [hb49] | (conv => arg 7; rw [hb49]) | (conv => arg 9; rw [hb49]))
                              · refine st1 ?_
                                have hq : some _ = some _ := hF
                                cases hq
                                exact en1
                              · refine st1 ?_
                                rcases e_bif hF with ⟨hb50, hF⟩ | ⟨hb50, hF⟩ <;> (first | rw [hb50] | (conv => arg 7; rw [hb50]) | (conv => arg 9; rw [hb50]))
                                · refine st1 ?_
                                  have hq : some _ = some _ := hF
                                  cases hq
                                  exact en1
                                · refine st1 ?_
                                  rw [fl_thalweglaw01_RiverWays_27, eg_thalweglaw01_RiverWays_27, ag_thalweglaw01_RiverWays_27]
                                  (conv => arg 1; whnf)
                                  refine st1 ?_
                                  rcases e_bif hF with ⟨hb51, hF⟩ | ⟨hb51, hF⟩ <;> (first | rw [hb51] | (conv => arg 7; rw [hb51]) | (conv => arg 9; rw [hb51]))
                                  · refine st1 ?_
                                    have hq : some _ = some _ := hF
                                    cases hq
                                    exact en1
                                  · refine st1 ?_
                                    obtain ⟨_, h, hF⟩ := e_bind hF
                                    (first | refine o_app (enc := eTPass) (s := 3) h (fun _ => rfl) ?_ | refine o_appT (enc := eTPass) (s := 3) h (fun _ => rfl) ?_)
                                    refine st1 ?_
                                    refine st_loopF (e_assoc hF) () [(0, _), (30, _), (110, _)] ⟨sT, sS, by rfl, by rfl⟩ ?_
                                    · rintro n ⟨_, _⟩ _ x hx1 hF
                                      (conv => arg 7; whnf); (conv => arg 8; whnf); (conv => arg 9; whnf)
                                      refine st1 ?_
                                      rcases e_bif hF with ⟨hb54, hF⟩ | ⟨hb54, hF⟩ <;> (first | rw [hb54] | (conv => arg 7; rw [hb54]) | (conv => arg 9; rw [hb54]))
                                      · refine st1 ?_
                                        obtain ⟨_, hi61, hF⟩ := e_bind hF
                                        (first | refine go_req (oidx_ok hi61 (by decide)) ?_ | refine goT_req (oidx_ok hi61 (by decide)) ?_ | refine go_req (oidx_len hi61 (set_len (by assumption)) (by decide)) ?_ | refine goT_req (oidx_len hi61 (set_len (by assumption)) (by decide)) ?_)
                                        (conv => arg 1; whnf)
                                        refine st1 ?_
                                        (first | refine o_ldA (enc := eTPass) (s := 3) hi61 (fun _ => rfl) (by decide) ?_ | refine o_ldB (enc := eTPass) (s := 3) hi61 (fun _ => rfl) (by decide) ?_ | refine o_ldC (enc := eTPass) (s := 3) hi61 (fun _ => rfl) (by decide) ?_ | refine o_ldD (enc := eTPass) (s := 3) hi61 (fun _ => rfl) (by decide) ?_ | refine o_ldAT (enc := eTPass) (s := 3) hi61 (fun _ => rfl) (by decide) ?_ | refine o_ldBT (enc := eTPass) (s := 3) hi61 (fun _ => rfl) (by decide) ?_ | refine o_ldCT (enc := eTPass) (s := 3) hi61 (fun _ => rfl) (by decide) ?_ | refine o_ldDT (enc := eTPass) (s := 3) hi61 (fun _ => rfl) (by decide) ?_)
                                        (conv => arg 1; whnf)
                                        refine st1 ?_
                                        obtain ⟨_, hi63, hF⟩ := e_bind hF
                                        (first | refine go_req (oidx_ok hi63 (by decide)) ?_ | refine goT_req (oidx_ok hi63 (by decide)) ?_ | refine go_req (oidx_len hi63 (set_len (by assumption)) (by decide)) ?_ | refine goT_req (oidx_len hi63 (set_len (by assumption)) (by decide)) ?_)
                                        (conv => arg 1; whnf)
                                        refine st1 ?_
                                        obtain ⟨_, h, hF⟩ := e_bind hF
                                        (first | refine o_stA (enc := eTPass) (s := 3) hi63 h (fun _ => rfl) (by decide) rfl rfl ?_ | refine o_stB (enc := eTPass) (s := 3) hi63 h (fun _ => rfl) (by decide) rfl rfl ?_ | refine o_stAT (enc := eTPass) (s := 3) hi63 h (fun _ => rfl) (by decide) rfl rfl ?_ | refine o_stBT (enc := eTPass) (s := 3) hi63 h (fun _ => rfl) (by decide) rfl rfl ?_ | refine o_stC (enc := eTPass) (s := 3) hi63 h (fun _ => rfl) (by decide) rfl rfl ?_ | refine o_stCT (enc := eTPass) (s := 3) hi63 h (fun _ => rfl) (by decide) rfl rfl ?_)
                                        refine st1 ?_
                                        obtain ⟨_, h, hF⟩ := e_bind hF
                                        (first | refine o_ia (enc := (eS eTBounds)) (s := 1) h (fun _ => rfl) (by decide) ?_ | refine o_iaT (enc := (eS eTBounds)) (s := 1) h (fun _ => rfl) (by decide) ?_)
                                        intro _
                                        refine st1 ?_
                                        obtain ⟨_, hi67, hF⟩ := e_bind hF
                                        (first | refine go_req (oidx_ok hi67 (by decide)) ?_ | refine goT_req (oidx_ok hi67 (by decide)) ?_ | refine go_req (oidx_len hi67 (set_len (by assumption)) (by decide)) ?_ | refine goT_req (oidx_len hi67 (set_len (by assumption)) (by decide)) ?_)
                                        (conv => arg 1; whnf)
                                        refine st1 ?_
                                        (first | refine o_ldA (enc := eTPass) (s := 3) hi67 (fun _ => rfl) (by decide) ?_ | refine o_ldB (enc := eTPass) (s := 3) hi67 (fun _ => rfl) (by decide) ?_ | refine o_ldC (enc := eTPass) (s := 3) hi67 (fun _ => rfl) (by decide) ?_ | refine o_ldD (enc := eTPass) (s := 3) hi67 (fun _ => rfl) (by decide) ?_ | refine o_ldAT (enc := eTPass) (s := 3) hi67 (fun _ => rfl) (by decide) ?_ | refine o_ldBT (enc := eTPass) (s := 3) hi67 (fun _ => rfl) (by decide) ?_ | refine o_ldCT (enc := eTPass) (s := 3) hi67 (fun _ => rfl) (by decide) ?_ | refine o_ldDT (enc := eTPass) (s := 3) hi67 (fun _ => rfl) (by decide) ?_)
                                        (conv => arg 1; whnf)
                                        refine st1 ?_
                                        obtain ⟨_, hi69, hF⟩ := e_bind hF
                                        (first | refine go_req (oidx_ok hi69 (by decide)) ?_ | refine goT_req (oidx_ok hi69 (by decide)) ?_ | refine go_req (oidx_len hi69 (set_len (by assumption)) (by decide)) ?_ | refine goT_req (oidx_len hi69 (set_len (by assumption)) (by decide)) ?_)
                                        (conv => arg 1; whnf)
                                        refine st1 ?_
                                        obtain ⟨_, h, hF⟩ := e_bind hF
                                        (first | refine o_stA (enc := eTPass) (s := 3) hi69 h (fun _ => rfl) (by decide) rfl rfl ?_ | refine o_stB (enc := eTPass) (s := 3) hi69 h (fun _ => rfl) (by decide) rfl rfl ?_ | refine o_stAT (enc := eTPass) (s := 3) hi69 h (fun _ => rfl) (by decide) rfl rfl ?_ | refine o_stBT (enc := eTPass) (s := 3) hi69 h (fun _ => rfl) (by decide) rfl rfl ?_ | refine o_stC (enc := eTPass) (s := 3) hi69 h (fun _ => rfl) (by decide) rfl rfl ?_ | refine o_stCT (enc := eTPass) (s := 3) hi69 h (fun _ => rfl) (by decide) rfl rfl ?_)
                                        refine st1 ?_
                                        exact k_loopF (e_some hF) hx1 () [(0, _), (30, _), (110, _)] ⟨sT, sS, by rfl, by rfl⟩
                                      · refine st1 ?_
                                        have hF := e_some hF
                                        obtain ⟨_, h, hF⟩ := e_bind hF
                                        (first | refine g_call h lv1 ?_ | refine g_callT h lv1 ?_)
                                        (conv => arg 1; whnf)
                                        refine st1 ?_
                                        obtain ⟨_, h, hF⟩ := e_bind hF
                                        (first | refine g_call h lv1 ?_ | refine g_callT h lv1 ?_)
                                        (conv => arg 1; whnf)
                                        refine st1 ?_
                                        obtain ⟨_, h, hF⟩ := e_bind hF
                                        (first | refine g_call h lv1 ?_ | refine g_callT h lv1 ?_)
                                        (conv => arg 1; whnf)
                                        refine st1 ?_
                                        rcases e_bif hF with ⟨hb55, hF⟩ | ⟨hb55, hF⟩ <;> (first | rw [hb55] | (conv => arg 7; rw [hb55]) | (conv => arg 9; rw [hb55]))
                                        · refine st1 ?_
                                          rcases e_bif hF with ⟨hb56, hF⟩ | ⟨hb56, hF⟩ <;> (first | rw [hb56] | (conv => arg 7; rw [hb56]) | (conv => arg 9; rw [hb56]))
                                          · refine st1 ?_
                                            rcases e_bif hF with ⟨hb57, hF⟩ | ⟨hb57, hF⟩ <;> (first | rw [hb57] | (conv => arg 7; rw [hb57]) | (conv => arg 9; rw [hb57]))
                                            · refine st1 ?_
                                              obtain ⟨_, h, hF⟩ := e_bind hF
                                              (first | refine g_call h lv1 ?_ | refine g_callT h lv1 ?_)
                                              (conv => arg 1; whnf)
                                              refine st1 ?_
                                              have hq : some _ = some _ := hF
                                              cases hq
                                              exact en1
                                            · refine st1 ?_
                                              have hq : some _ = some _ := hF
                                              cases hq
                                              exact en1
                                          · refine st1 ?_
                                            have hq : some _ = some _ := hF
                                            cases hq
                                            exact en1
                                        · refine st1 ?_
                                          have hq : some _ = some _ := hF
                                          cases hq
                                          exact en1
                            · refine st1 ?_
                              obtain ⟨_, h, hF⟩ := e_bind hF
                              (first | refine o_app (enc := eTPass) (s := 3) h (fun _ => rfl) ?_ | refine o_appT (enc := eTPass) (s := 3) h (fun _ => rfl) ?_)
                              refine st1 ?_
                              refine st_loopF (e_assoc hF) () [(0, _), (30, _), (45, _)] ⟨sT, sS, by rfl, by rfl⟩ ?_
                              · rintro n ⟨_, _⟩ _ x hx1 hF
                                (conv => arg 7; whnf); (conv => arg 8; whnf); (conv => arg 9; whnf)
                                refine st1 ?_
                                rcases e_bif hF with ⟨hb60, hF⟩ | ⟨hb60, hF⟩ <;> (first | rw [hb60] | (conv => arg 7; rw [hb60]) | (conv => arg 9; rw [hb60]))
                                · refine st1 ?_
                                  obtain ⟨_, hi91, hF⟩ := e_bind hF
                                  (first | refine go_req (oidx_ok hi91 (by decide)) ?_ | refine goT_req (oidx_ok hi91 (by decide)) ?_ | refine go_req (oidx_len hi91 (set_len (by assumption)) (by decide)) ?_ | refine goT_req (oidx_len hi91 (set_len (by assumption)) (by decide)) ?_)
                                  (conv => arg 1; whnf)
                                  refine st1 ?_
                                  (first | refine o_ldA (enc := eTPass) (s := 3) hi91 (fun _ => rfl) (by decide) ?_ | refine o_ldB (enc := eTPass) (s := 3) hi91 (fun _ => rfl) (by decide) ?_ | refine o_ldC (enc := eTPass) (s := 3) hi91 (fun _ => rfl) (by decide) ?_ | refine o_ldD (enc := eTPass) (s := 3) hi91 (fun _ => rfl) (by decide) ?_ | refine o_ldAT (enc := eTPass) (s := 3) hi91 (fun _ => rfl) (by decide) ?_ | refine o_ldBT (enc := eTPass) (s := 3) hi91 (fun _ => rfl) (by decide) ?_ | refine o_ldCT (enc := eTPass) (s := 3) hi91 (fun _ => rfl) (by decide) ?_ | refine o_ldDT (enc := eTPass) (s := 3) hi91 (fun _ => rfl) (by decide) ?_)
                                  (conv => arg 1; whnf)
                                  refine st1 ?_
                                  obtain ⟨_, hi93, hF⟩ := e_bind hF
                                  (first | refine go_req (oidx_ok hi93 (by decide)) ?_ | refine goT_req (oidx_ok hi93 (by decide)) ?_ | refine go_req (oidx_len hi93 (set_len (by assumption)) (by decide)) ?_ | refine goT_req (oidx_len hi93 (set_len (by assumption)) (by decide)) ?_)
                                  (conv => arg 1; whnf)
                                  refine st1 ?_
                                  obtain ⟨_, h, hF⟩ := e_bind hF
                                  (first | refine o_stA (enc := eTPass) (s := 3) hi93 h (fun _ => rfl) (by decide) rfl rfl ?_ | refine o_stB (enc := eTPass) (s := 3) hi93 h (fun _ => rfl) (by decide) rfl rfl ?_ | refine o_stAT (enc := eTPass) (s := 3) hi93 h (fun _ => rfl) (by decide) rfl rfl ?_ | refine o_stBT (enc := eTPass) (s := 3) hi93 h (fun _ => rfl) (by decide) rfl rfl ?_ | refine o_stC (enc := eTPass) (s := 3) hi93 h (fun _ => rfl) (by decide) rfl rfl ?_ | refine o_stCT (enc := eTPass) (s := 3) hi93 h (fun _ => rfl) (by decide) rfl rfl ?_)
                                  refine st1 ?_
                                  obtain ⟨_, h, hF⟩ := e_bind hF
                                  (first | refine o_ia (enc := (eS eTBounds)) (s := 1) h (fun _ => rfl) (by decide) ?_ | refine o_iaT (enc := (eS eTBounds)) (s := 1) h (fun _ => rfl) (by decide) ?_)
                                  intro _
                                  refine st1 ?_
                                  obtain ⟨_, hi97, hF⟩ := e_bind hF
                                  (first | refine go_req (oidx_ok hi97 (by decide)) ?_ | refine goT_req (oidx_ok hi97 (by decide)) ?_ | refine go_req (oidx_len hi97 (set_len (by assumption)) (by decide)) ?_ | refine goT_req (oidx_len hi97 (set_len (by assumption)) (by decide)) ?_)
                                  (conv => arg 1; whnf)
                                  refine st1 ?_
                                  (first | refine o_ldA (enc := eTPass) (s := 3) hi97 (fun _ => rfl) (by decide) ?_ | refine o_ldB (enc := eTPass) (s := 3) hi97 (fun _ => rfl) (by decide) ?_ | refine o_ldC (enc := eTPass) (s := 3) hi97 (fun _ => rfl) (by decide) ?_ | refine o_ldD (enc := eTPass) (s := 3) hi97 (fun _ => rfl) (by decide) ?_ | refine o_ldAT (enc := eTPass) (s := 3) hi97 (fun _ => rfl) (by decide) ?_ | refine o_ldBT (enc := eTPass) (s := 3) hi97 (fun _ => rfl) (by decide) ?_ | refine o_ldCT (enc := eTPass) (s := 3) hi97 (fun _ => rfl) (by decide) ?_ | refine o_ldDT (enc := eTPass) (s := 3) hi97 (fun _ => rfl) (by decide) ?_)
                                  (conv => arg 1; whnf)
                                  refine st1 ?_
                                  obtain ⟨_, hi99, hF⟩ := e_bind hF
                                  (first | refine go_req (oidx_ok hi99 (by decide)) ?_ | refine goT_req (oidx_ok hi99 (by decide)) ?_ | refine go_req (oidx_len hi99 (set_len (by assumption)) (by decide)) ?_ | refine goT_req (oidx_len hi99 (set_len (by assumption)) (by decide)) ?_)
                                  (conv => arg 1; whnf)
                                  refine st1 ?_
                                  obtain ⟨_, h, hF⟩ := e_bind hF
                                  (first | refine o_stA (enc := eTPass) (s := 3) hi99 h (fun _ => rfl) (by decide) rfl rfl ?_ | refine o_stB (enc := eTPass) (s := 3) hi99 h (fun _ => rfl) (by decide) rfl rfl ?_ | refine o_stAT (enc := eTPass) (s := 3) hi99 h (fun _ => rfl) (by decide) rfl rfl ?_ | refine o_stBT (enc := eTPass) (s := 3) hi99 h (fun _ => rfl) (by decide) rfl rfl ?_ | refine o_stC (enc := eTPass) (s := 3) hi99 h (fun _ => rfl) (by decide) rfl rfl ?_ | refine o_stCT (enc := eTPass) (s := 3) hi99 h (fun _ => rfl) (by decide) rfl rfl ?_)
                                  refine st1 ?_
                                  exact k_loopF (e_some hF) hx1 () [(0, _), (30, _), (45, _)] ⟨sT, sS, by rfl, by rfl⟩
                                · refine st1 ?_
                                  have hF := e_some hF
                                  obtain ⟨_, h, hF⟩ := e_bind hF
                                  (first | refine g_call h lv1 ?_ | refine g_callT h lv1 ?_)
                                  (conv => arg 1; whnf)
                                  refine st1 ?_
                                  obtain ⟨_, h, hF⟩ := e_bind hF
                                  (first | refine g_call h lv1 ?_ | refine g_callT h lv1 ?_)
                                  (conv => arg 1; whnf)
                                  refine st1 ?_
                                  obtain ⟨_, h, hF⟩ := e_bind hF
                                  (first | refine g_call h lv1 ?_ | refine g_callT h lv1 ?_)
                                  (conv => arg 1; whnf)
                                  refine st1 ?_
                                  rcases e_bif hF with ⟨hb61, hF⟩ | ⟨hb61, hF⟩ <;> (first | rw [hb61] | (conv => arg 7; rw [hb61]) | (conv => arg 9; rw [hb61]))
                                  · refine st1 ?_
                                    rcases e_bif hF with ⟨hb62, hF⟩ | ⟨hb62, hF⟩ <;> (first | rw [hb62] | (conv => arg 7; rw [hb62]) | (conv => arg 9; rw [hb62]))
                                    · refine st1 ?_
                                      rcases e_bif hF with ⟨hb63, hF⟩ | ⟨hb63, hF⟩ <;> (first | rw [hb63] | (conv => arg 7; rw [hb63]) | (conv => arg 9; rw [hb63]))
                                      · refine st1 ?_
                                        obtain ⟨_, h, hF⟩ := e_bind hF
                                        (first | refine g_call h lv1 ?_ | refine g_callT h lv1 ?_)
                                        (conv => arg 1; whnf)
                                        refine st1 ?_
                                        have hq : some _ = some _ := hF
                                        cases hq
                                        exact en1
                                      · refine st1 ?_
                                        have hq : some _ = some _ := hF
                                        cases hq
                                        exact en1
                                    · refine st1 ?_
                                      have hq : some _ = some _ := hF
                                      cases hq
                                      exact en1
                                  · refine st1 ?_
                                    have hq : some _ = some _ := hF
                                    cases hq
                                    exact en1
end Go.Ev
