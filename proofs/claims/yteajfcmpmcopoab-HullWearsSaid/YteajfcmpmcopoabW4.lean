/- A part of the proof of HullWears. -/
import Derived.Test.YteajfcmpmcopoabW3
/- The functions do what is said. -/
set_option linter.unusedVariables false
set_option linter.unusedSimpArgs false
namespace Go.Ev
open Go.Proofs
set_option maxHeartbeats 8000000
set_option maxRecDepth 100000
@[reducible] noncomputable def c_thalweglaw02_HullWears : Con := conF F_thalweglaw02_HullWears (fun x => match x with | (a0, a1, a2) => [(V.sl (recs eTanon35 (a0)) (a0).length), (V.v (.int .u8 (a1))), (V.sl (recs (eI .u8) (a2)) (a2).length)]) (fun r => (V.v (.bool (r))))
theorem h_thalweglaw02_HullWears : Has Try.prog 6 c_thalweglaw02_HullWears := by
  refine hasF (ctx_cons h_hull_Life (ctx_cons h_thalweglaw02_known ctx_nil)) mix Try.func6 rfl (by kernel_rfl) ?_
  rintro ⟨a0, a1, a2⟩ r hF
  refine ⟨of_decide_eq_true rfl, ?_⟩
  refine st1 ?_
  refine st_loopF (e_assoc hF) () [(1, _)] ⟨sT, sS, by rfl, by rfl⟩ ?_
  · as_aux_lemma =>
    rintro n ⟨_, _⟩ _ x hx1 hF
    (conv => arg 7; whnf); (conv => arg 8; whnf); (conv => arg 9; whnf)
    refine st1 ?_
    rcases e_bif hF with ⟨hb4, hF⟩ | ⟨hb4, hF⟩ <;> (first | rw [hb4] | (conv => arg 7; rw [hb4]))
    · refine st1 ?_
      rcases e_bif hF with ⟨hb5, hF⟩ | ⟨hb5, hF⟩ <;> (first | rw [hb5] | (conv => arg 7; rw [hb5]))
      · refine st1 ?_
        obtain ⟨_, h, hF⟩ := e_bind hF
        (first | refine o_ia (enc := eTanon35) (s := 4) h (fun _ => rfl) (by decide) ?_ | refine o_iaT (enc := eTanon35) (s := 4) h (fun _ => rfl) (by decide) ?_)
        intro _
        refine st1 ?_
        obtain ⟨_, h, hF⟩ := e_bind hF
        (first | refine o_app (enc := eTHullPlate) (s := 4) h (fun _ => rfl) ?_ | refine o_appT (enc := eTHullPlate) (s := 4) h (fun _ => rfl) ?_)
        refine st1 ?_
        exact k_loopF (e_some hF) hx1 () [(1, _)] ⟨sT, sS, by rfl, by rfl⟩
      · refine st1 ?_
        have hF := e_some hF
        obtain ⟨_, h, hF⟩ := e_bind hF
        (first | refine o_app (enc := eTHullPlate) (s := 4) h (fun _ => rfl) ?_ | refine o_appT (enc := eTHullPlate) (s := 4) h (fun _ => rfl) ?_)
        refine st1 ?_
        obtain ⟨_, h, hF⟩ := e_bind hF
        (first | refine g_call h lv1 ?_ | refine g_callT h lv1 ?_)
        (conv => arg 1; whnf)
        refine st1 ?_
        rcases e_bif hF with ⟨hb6, hF⟩ | ⟨hb6, hF⟩ <;> (first | rw [hb6] | (conv => arg 7; rw [hb6]))
        · refine st1 ?_
          rcases e_bif hF with ⟨hb7, hF⟩ | ⟨hb7, hF⟩ <;> (first | rw [hb7] | (conv => arg 7; rw [hb7]))
          · refine st1 ?_
            obtain ⟨_, h, hF⟩ := e_bind hF
            (first | refine g_call h lv1 ?_ | refine g_callT h lv1 ?_)
            (conv => arg 1; whnf)
            refine st1 ?_
            have hq : some _ = some _ := hF
            cases hq
            exact en1
          · refine st1 ?_
            have hq : some _ = some _ := hF
            cases hq
            exact en1
        · refine st1 ?_
          rcases e_bif hF with ⟨hb8, hF⟩ | ⟨hb8, hF⟩ <;> (first | rw [hb8] | (conv => arg 7; rw [hb8]))
          · refine st1 ?_
            have hq : some _ = some _ := hF
            cases hq
            exact en1
          · refine st1 ?_
            rcases e_bif hF with ⟨hb9, hF⟩ | ⟨hb9, hF⟩ <;> (first | rw [hb9] | (conv => arg 7; rw [hb9]))
            · refine st1 ?_
              have hq : some _ = some _ := hF
              cases hq
              exact en1
            · refine st1 ?_
              rcases e_bif hF with ⟨hb10, hF⟩ | ⟨hb10, hF⟩ <;> (first | rw [hb10] | (conv => arg 7; rw [hb10]))
              · refine st1 ?_
                have hq : some _ = some _ := hF
                cases hq
                exact en1
              · refine st1 ?_
                refine st_loopF (e_assoc hF) () [(1, _), (14, _)] ⟨sT, sS, by rfl, by rfl⟩ ?_
                · as_aux_lemma =>
                  rintro n _ _ x hx1 hF
                  (conv => arg 7; whnf); (conv => arg 8; whnf); (conv => arg 9; whnf)
                  refine st1 ?_
                  rcases e_bif hF with ⟨hb293, hF⟩ | ⟨hb293, hF⟩ <;> (first | rw [hb293] | (conv => arg 7; rw [hb293]))
                  · refine st1 ?_
                    refine st_loopF (e_assoc hF) () [(1, _), (14, _)] ⟨sT, sS, by rfl, by rfl⟩ ?_
                    · as_aux_lemma =>
                      rintro n ⟨_, _⟩ _ x hx2 hF
                      (conv => arg 7; whnf); (conv => arg 8; whnf); (conv => arg 9; whnf)
                      refine st1 ?_
                      rcases e_bif hF with ⟨hb450, hF⟩ | ⟨hb450, hF⟩ <;> (first | rw [hb450] | (conv => arg 7; rw [hb450]))
                      · refine st1 ?_
                        obtain ⟨_, hi115, hF⟩ := e_bind hF
                        (first | refine go_req (oidx_ok hi115 (by decide)) ?_ | refine goT_req (oidx_ok hi115 (by decide)) ?_)
                        (conv => arg 1; whnf)
                        refine st1 ?_
                        (first | refine o_ldA (enc := eTHullPlate) (s := 4) hi115 (fun _ => rfl) (by decide) ?_ | refine o_ldB (enc := eTHullPlate) (s := 4) hi115 (fun _ => rfl) (by decide) ?_ | refine o_ldC (enc := eTHullPlate) (s := 4) hi115 (fun _ => rfl) (by decide) ?_ | refine o_ldD (enc := eTHullPlate) (s := 4) hi115 (fun _ => rfl) (by decide) ?_ | refine o_ldAT (enc := eTHullPlate) (s := 4) hi115 (fun _ => rfl) (by decide) ?_ | refine o_ldBT (enc := eTHullPlate) (s := 4) hi115 (fun _ => rfl) (by decide) ?_ | refine o_ldCT (enc := eTHullPlate) (s := 4) hi115 (fun _ => rfl) (by decide) ?_ | refine o_ldDT (enc := eTHullPlate) (s := 4) hi115 (fun _ => rfl) (by decide) ?_)
                        (conv => arg 1; whnf)
                        refine st1 ?_
                        obtain ⟨_, hi117, hF⟩ := e_bind hF
                        (first | refine go_req (oidx_ok hi117 (by decide)) ?_ | refine goT_req (oidx_ok hi117 (by decide)) ?_)
                        (conv => arg 1; whnf)
                        refine st1 ?_
                        (first | refine o_ldA (enc := eTHullPlate) (s := 4) hi117 (fun _ => rfl) (by decide) ?_ | refine o_ldB (enc := eTHullPlate) (s := 4) hi117 (fun _ => rfl) (by decide) ?_ | refine o_ldC (enc := eTHullPlate) (s := 4) hi117 (fun _ => rfl) (by decide) ?_ | refine o_ldD (enc := eTHullPlate) (s := 4) hi117 (fun _ => rfl) (by decide) ?_ | refine o_ldAT (enc := eTHullPlate) (s := 4) hi117 (fun _ => rfl) (by decide) ?_ | refine o_ldBT (enc := eTHullPlate) (s := 4) hi117 (fun _ => rfl) (by decide) ?_ | refine o_ldCT (enc := eTHullPlate) (s := 4) hi117 (fun _ => rfl) (by decide) ?_ | refine o_ldDT (enc := eTHullPlate) (s := 4) hi117 (fun _ => rfl) (by decide) ?_)
                        (conv => arg 1; whnf)
                        refine st1 ?_
                        rcases e_bif hF with ⟨hb451, hF⟩ | ⟨hb451, hF⟩ <;> (first | rw [hb451] | (conv => arg 7; rw [hb451]))
                        · refine st1 ?_
                          obtain ⟨_, hi119, hF⟩ := e_bind hF
                          (first | refine go_req (oidx_ok hi119 (by decide)) ?_ | refine goT_req (oidx_ok hi119 (by decide)) ?_)
                          (conv => arg 1; whnf)
                          refine st1 ?_
                          (first | refine o_ldA (enc := eTHullPlate) (s := 4) hi119 (fun _ => rfl) (by decide) ?_ | refine o_ldB (enc := eTHullPlate) (s := 4) hi119 (fun _ => rfl) (by decide) ?_ | refine o_ldC (enc := eTHullPlate) (s := 4) hi119 (fun _ => rfl) (by decide) ?_ | refine o_ldD (enc := eTHullPlate) (s := 4) hi119 (fun _ => rfl) (by decide) ?_ | refine o_ldAT (enc := eTHullPlate) (s := 4) hi119 (fun _ => rfl) (by decide) ?_ | refine o_ldBT (enc := eTHullPlate) (s := 4) hi119 (fun _ => rfl) (by decide) ?_ | refine o_ldCT (enc := eTHullPlate) (s := 4) hi119 (fun _ => rfl) (by decide) ?_ | refine o_ldDT (enc := eTHullPlate) (s := 4) hi119 (fun _ => rfl) (by decide) ?_)
                          (conv => arg 1; whnf)
                          refine st1 ?_
                          obtain ⟨_, hi121, hF⟩ := e_bind hF
                          (first | refine go_req (oidx_ok hi121 (by decide)) ?_ | refine goT_req (oidx_ok hi121 (by decide)) ?_)
                          (conv => arg 1; whnf)
                          refine st1 ?_
                          (first | refine o_ldA (enc := eTHullPlate) (s := 4) hi121 (fun _ => rfl) (by decide) ?_ | refine o_ldB (enc := eTHullPlate) (s := 4) hi121 (fun _ => rfl) (by decide) ?_ | refine o_ldC (enc := eTHullPlate) (s := 4) hi121 (fun _ => rfl) (by decide) ?_ | refine o_ldD (enc := eTHullPlate) (s := 4) hi121 (fun _ => rfl) (by decide) ?_ | refine o_ldAT (enc := eTHullPlate) (s := 4) hi121 (fun _ => rfl) (by decide) ?_ | refine o_ldBT (enc := eTHullPlate) (s := 4) hi121 (fun _ => rfl) (by decide) ?_ | refine o_ldCT (enc := eTHullPlate) (s := 4) hi121 (fun _ => rfl) (by decide) ?_ | refine o_ldDT (enc := eTHullPlate) (s := 4) hi121 (fun _ => rfl) (by decide) ?_)
                          (conv => arg 1; whnf)
                          refine st1 ?_
                          rcases e_bif hF with ⟨hb452, hF⟩ | ⟨hb452, hF⟩ <;> (first | rw [hb452] | (conv => arg 7; rw [hb452]))
                          · refine st1 ?_
                            rcases e_bif hF with ⟨hb453, hF⟩ | ⟨hb453, hF⟩ <;> (first | rw [hb453] | (conv => arg 7; rw [hb453]))
                            · refine st1 ?_
                              obtain ⟨_, h, hF⟩ := e_bind hF
                              (first | refine go_req (nz_ne h) ?_ | refine goT_req (nz_ne h) ?_)
                              (conv => arg 1; whnf)
                              refine st1 ?_
                              obtain ⟨_, h, hF⟩ := e_bind hF
                              (first | refine o_ia (enc := (eI .u8)) (s := 1) h (fun _ => rfl) (by decide) ?_ | refine o_iaT (enc := (eI .u8)) (s := 1) h (fun _ => rfl) (by decide) ?_)
                              intro _
                              refine st1 ?_
                              obtain ⟨_, hi124, hF⟩ := e_bind hF
                              (first | refine go_req (oidx_ok hi124 (by decide)) ?_ | refine goT_req (oidx_ok hi124 (by decide)) ?_)
                              (conv => arg 1; whnf)
                              refine st1 ?_
                              (first | refine o_ldA (enc := eTHullPlate) (s := 4) hi124 (fun _ => rfl) (by decide) ?_ | refine o_ldB (enc := eTHullPlate) (s := 4) hi124 (fun _ => rfl) (by decide) ?_ | refine o_ldC (enc := eTHullPlate) (s := 4) hi124 (fun _ => rfl) (by decide) ?_ | refine o_ldD (enc := eTHullPlate) (s := 4) hi124 (fun _ => rfl) (by decide) ?_ | refine o_ldAT (enc := eTHullPlate) (s := 4) hi124 (fun _ => rfl) (by decide) ?_ | refine o_ldBT (enc := eTHullPlate) (s := 4) hi124 (fun _ => rfl) (by decide) ?_ | refine o_ldCT (enc := eTHullPlate) (s := 4) hi124 (fun _ => rfl) (by decide) ?_ | refine o_ldDT (enc := eTHullPlate) (s := 4) hi124 (fun _ => rfl) (by decide) ?_)
                              (conv => arg 1; whnf)
                              refine st1 ?_
                              obtain ⟨_, h, hF⟩ := e_bind hF
                              (first | refine go_req (nz_ne h) ?_ | refine goT_req (nz_ne h) ?_)
                              (conv => arg 1; whnf)
                              refine st1 ?_
                              obtain ⟨_, h, hF⟩ := e_bind hF
                              (first | refine go_req (nz_ne h) ?_ | refine goT_req (nz_ne h) ?_)
                              (conv => arg 1; whnf)
                              refine st1 ?_
                              obtain ⟨_, h, hF⟩ := e_bind hF
                              (first | refine o_ia (enc := (eI .u8)) (s := 1) h (fun _ => rfl) (by decide) ?_ | refine o_iaT (enc := (eI .u8)) (s := 1) h (fun _ => rfl) (by decide) ?_)
                              intro _
                              refine st1 ?_
                              obtain ⟨_, hi127, hF⟩ := e_bind hF
                              (first | refine go_req (oidx_ok hi127 (by decide)) ?_ | refine goT_req (oidx_ok hi127 (by decide)) ?_)
                              (conv => arg 1; whnf)
                              refine st1 ?_
                              (first | refine o_ldA (enc := eTHullPlate) (s := 4) hi127 (fun _ => rfl) (by decide) ?_ | refine o_ldB (enc := eTHullPlate) (s := 4) hi127 (fun _ => rfl) (by decide) ?_ | refine o_ldC (enc := eTHullPlate) (s := 4) hi127 (fun _ => rfl) (by decide) ?_ | refine o_ldD (enc := eTHullPlate) (s := 4) hi127 (fun _ => rfl) (by decide) ?_ | refine o_ldAT (enc := eTHullPlate) (s := 4) hi127 (fun _ => rfl) (by decide) ?_ | refine o_ldBT (enc := eTHullPlate) (s := 4) hi127 (fun _ => rfl) (by decide) ?_ | refine o_ldCT (enc := eTHullPlate) (s := 4) hi127 (fun _ => rfl) (by decide) ?_ | refine o_ldDT (enc := eTHullPlate) (s := 4) hi127 (fun _ => rfl) (by decide) ?_)
                              (conv => arg 1; whnf)
                              refine st1 ?_
                              obtain ⟨_, h, hF⟩ := e_bind hF
                              (first | refine go_req (nz_ne h) ?_ | refine goT_req (nz_ne h) ?_)
                              (conv => arg 1; whnf)
                              refine st1 ?_
                              refine st_loopF (e_assoc hF) () [(1, _), (14, _)] ⟨sT, sS, by rfl, by rfl⟩ ?_
                              · as_aux_lemma =>
                                rintro n _ _ x hx3 hF
                                (conv => arg 7; whnf); (conv => arg 8; whnf); (conv => arg 9; whnf)
                                refine st1 ?_
                                rcases e_bif hF with ⟨hb457, hF⟩ | ⟨hb457, hF⟩ <;> (first | rw [hb457] | (conv => arg 7; rw [hb457]))
                                · refine st1 ?_
                                  rcases e_bif hF with ⟨hb458, hF⟩ | ⟨hb458, hF⟩ <;> (first | rw [hb458] | (conv => arg 7; rw [hb458]))
                                  · refine st1 ?_
                                    exact k_loopF (e_some hF) hx3 () [(1, _), (14, _)] ⟨sT, sS, by rfl, by rfl⟩
                                  · refine st1 ?_
                                    have hF := e_some hF
                                    rcases e_bif hF with ⟨hb459, hF⟩ | ⟨hb459, hF⟩ <;> (first | rw [hb459] | (conv => arg 7; rw [hb459]))
                                    · refine st1 ?_
                                      rcases e_bif hF with ⟨hb460, hF⟩ | ⟨hb460, hF⟩ <;> (first | rw [hb460] | (conv => arg 7; rw [hb460]))
                                      · refine st1 ?_
                                        rcases e_bif hF with ⟨hb461, hF⟩ | ⟨hb461, hF⟩ <;> (first | rw [hb461] | (conv => arg 7; rw [hb461]))
                                        · refine st1 ?_
                                          have hF := e_some hF
                                          have hF := e_some hF
                                          have hq : some _ = some _ := hF
                                          cases hq
                                          exact en1
                                        · refine st1 ?_
                                          rcases e_bif hF with ⟨hb462, hF⟩ | ⟨hb462, hF⟩ <;> (first | rw [hb462] | (conv => arg 7; rw [hb462]))
                                          · refine st1 ?_
                                            rcases e_bif hF with ⟨hb463, hF⟩ | ⟨hb463, hF⟩ <;> (first | rw [hb463] | (conv => arg 7; rw [hb463]))
                                            · refine st1 ?_
                                              have hF := e_some hF
                                              have hF := e_some hF
                                              have hq : some _ = some _ := hF
                                              cases hq
                                              exact en1
                                            · refine st1 ?_
                                              exact k_loopF (e_some hF) hx2 () [(1, _), (14, _)] ⟨sT, sS, by rfl, by rfl⟩
                                          · refine st1 ?_
                                            exact k_loopF (e_some hF) hx2 () [(1, _), (14, _)] ⟨sT, sS, by rfl, by rfl⟩
                                      · refine st1 ?_
                                        rcases e_bif hF with ⟨hb464, hF⟩ | ⟨hb464, hF⟩ <;> (first | rw [hb464] | (conv => arg 7; rw [hb464]))
                                        · refine st1 ?_
                                          rcases e_bif hF with ⟨hb465, hF⟩ | ⟨hb465, hF⟩ <;> (first | rw [hb465] | (conv => arg 7; rw [hb465]))
                                          · refine st1 ?_
                                            have hF := e_some hF
                                            have hF := e_some hF
                                            have hq : some _ = some _ := hF
                                            cases hq
                                            exact en1
                                          · refine st1 ?_
                                            exact k_loopF (e_some hF) hx2 () [(1, _), (14, _)] ⟨sT, sS, by rfl, by rfl⟩
                                        · refine st1 ?_
                                          exact k_loopF (e_some hF) hx2 () [(1, _), (14, _)] ⟨sT, sS, by rfl, by rfl⟩
                                    · refine st1 ?_
                                      exact k_loopF (e_some hF) hx2 () [(1, _), (14, _)] ⟨sT, sS, by rfl, by rfl⟩
                                · refine st1 ?_
                                  have hF := e_some hF
                                  rcases e_bif hF with ⟨hb459, hF⟩ | ⟨hb459, hF⟩ <;> (first | rw [hb459] | (conv => arg 7; rw [hb459]))
                                  · refine st1 ?_
                                    rcases e_bif hF with ⟨hb460, hF⟩ | ⟨hb460, hF⟩ <;> (first | rw [hb460] | (conv => arg 7; rw [hb460]))
                                    · refine st1 ?_
                                      rcases e_bif hF with ⟨hb461, hF⟩ | ⟨hb461, hF⟩ <;> (first | rw [hb461] | (conv => arg 7; rw [hb461]))
                                      · refine st1 ?_
                                        have hF := e_some hF
                                        have hF := e_some hF
                                        have hq : some _ = some _ := hF
                                        cases hq
                                        exact en1
                                      · refine st1 ?_
                                        rcases e_bif hF with ⟨hb462, hF⟩ | ⟨hb462, hF⟩ <;> (first | rw [hb462] | (conv => arg 7; rw [hb462]))
                                        · refine st1 ?_
                                          rcases e_bif hF with ⟨hb463, hF⟩ | ⟨hb463, hF⟩ <;> (first | rw [hb463] | (conv => arg 7; rw [hb463]))
                                          · refine st1 ?_
                                            have hF := e_some hF
                                            have hF := e_some hF
                                            have hq : some _ = some _ := hF
                                            cases hq
                                            exact en1
                                          · refine st1 ?_
                                            exact k_loopF (e_some hF) hx2 () [(1, _), (14, _)] ⟨sT, sS, by rfl, by rfl⟩
                                        · refine st1 ?_
                                          exact k_loopF (e_some hF) hx2 () [(1, _), (14, _)] ⟨sT, sS, by rfl, by rfl⟩
                                    · refine st1 ?_
                                      rcases e_bif hF with ⟨hb464, hF⟩ | ⟨hb464, hF⟩ <;> (first | rw [hb464] | (conv => arg 7; rw [hb464]))
                                      · refine st1 ?_
                                        rcases e_bif hF with ⟨hb465, hF⟩ | ⟨hb465, hF⟩ <;> (first | rw [hb465] | (conv => arg 7; rw [hb465]))
                                        · refine st1 ?_
                                          have hF := e_some hF
                                          have hF := e_some hF
                                          have hq : some _ = some _ := hF
                                          cases hq
                                          exact en1
                                        · refine st1 ?_
                                          exact k_loopF (e_some hF) hx2 () [(1, _), (14, _)] ⟨sT, sS, by rfl, by rfl⟩
                                      · refine st1 ?_
                                        exact k_loopF (e_some hF) hx2 () [(1, _), (14, _)] ⟨sT, sS, by rfl, by rfl⟩
                                  · refine st1 ?_
                                    exact k_loopF (e_some hF) hx2 () [(1, _), (14, _)] ⟨sT, sS, by rfl, by rfl⟩
                            · refine st1 ?_
                              refine st_loopF (e_assoc hF) () [(1, _), (14, _)] ⟨sT, sS, by rfl, by rfl⟩ ?_
                              · as_aux_lemma =>
                                rintro n _ _ x hx3 hF
                                (conv => arg 7; whnf); (conv => arg 8; whnf); (conv => arg 9; whnf)
                                refine st1 ?_
                                rcases e_bif hF with ⟨hb469, hF⟩ | ⟨hb469, hF⟩ <;> (first | rw [hb469] | (conv => arg 7; rw [hb469]))
                                · refine st1 ?_
                                  rcases e_bif hF with ⟨hb470, hF⟩ | ⟨hb470, hF⟩ <;> (first | rw [hb470] | (conv => arg 7; rw [hb470]))
                                  · refine st1 ?_
                                    exact k_loopF (e_some hF) hx3 () [(1, _), (14, _)] ⟨sT, sS, by rfl, by rfl⟩
                                  · refine st1 ?_
                                    have hF := e_some hF
                                    rcases e_bif hF with ⟨hb471, hF⟩ | ⟨hb471, hF⟩ <;> (first | rw [hb471] | (conv => arg 7; rw [hb471]))
                                    · refine st1 ?_
                                      rcases e_bif hF with ⟨hb472, hF⟩ | ⟨hb472, hF⟩ <;> (first | rw [hb472] | (conv => arg 7; rw [hb472]))
                                      · refine st1 ?_
                                        rcases e_bif hF with ⟨hb473, hF⟩ | ⟨hb473, hF⟩ <;> (first | rw [hb473] | (conv => arg 7; rw [hb473]))
                                        · refine st1 ?_
                                          have hF := e_some hF
                                          have hF := e_some hF
                                          have hq : some _ = some _ := hF
                                          cases hq
                                          exact en1
                                        · refine st1 ?_
                                          rcases e_bif hF with ⟨hb474, hF⟩ | ⟨hb474, hF⟩ <;> (first | rw [hb474] | (conv => arg 7; rw [hb474]))
                                          · refine st1 ?_
                                            rcases e_bif hF with ⟨hb475, hF⟩ | ⟨hb475, hF⟩ <;> (first | rw [hb475] | (conv => arg 7; rw [hb475]))
                                            · refine st1 ?_
                                              have hF := e_some hF
                                              have hF := e_some hF
                                              have hq : some _ = some _ := hF
                                              cases hq
                                              exact en1
                                            · refine st1 ?_
                                              exact k_loopF (e_some hF) hx2 () [(1, _), (14, _)] ⟨sT, sS, by rfl, by rfl⟩
                                          · refine st1 ?_
                                            exact k_loopF (e_some hF) hx2 () [(1, _), (14, _)] ⟨sT, sS, by rfl, by rfl⟩
                                      · refine st1 ?_
                                        rcases e_bif hF with ⟨hb476, hF⟩ | ⟨hb476, hF⟩ <;> (first | rw [hb476] | (conv => arg 7; rw [hb476]))
                                        · refine st1 ?_
                                          rcases e_bif hF with ⟨hb477, hF⟩ | ⟨hb477, hF⟩ <;> (first | rw [hb477] | (conv => arg 7; rw [hb477]))
                                          · refine st1 ?_
                                            have hF := e_some hF
                                            have hF := e_some hF
                                            have hq : some _ = some _ := hF
                                            cases hq
                                            exact en1
                                          · refine st1 ?_
                                            exact k_loopF (e_some hF) hx2 () [(1, _), (14, _)] ⟨sT, sS, by rfl, by rfl⟩
                                        · refine st1 ?_
                                          exact k_loopF (e_some hF) hx2 () [(1, _), (14, _)] ⟨sT, sS, by rfl, by rfl⟩
                                    · refine st1 ?_
                                      exact k_loopF (e_some hF) hx2 () [(1, _), (14, _)] ⟨sT, sS, by rfl, by rfl⟩
                                · refine st1 ?_
                                  have hF := e_some hF
                                  rcases e_bif hF with ⟨hb471, hF⟩ | ⟨hb471, hF⟩ <;> (first | rw [hb471] | (conv => arg 7; rw [hb471]))
                                  · refine st1 ?_
                                    rcases e_bif hF with ⟨hb472, hF⟩ | ⟨hb472, hF⟩ <;> (first | rw [hb472] | (conv => arg 7; rw [hb472]))
                                    · refine st1 ?_
                                      rcases e_bif hF with ⟨hb473, hF⟩ | ⟨hb473, hF⟩ <;> (first | rw [hb473] | (conv => arg 7; rw [hb473]))
                                      · refine st1 ?_
                                        have hF := e_some hF
                                        have hF := e_some hF
                                        have hq : some _ = some _ := hF
                                        cases hq
                                        exact en1
                                      · refine st1 ?_
                                        rcases e_bif hF with ⟨hb474, hF⟩ | ⟨hb474, hF⟩ <;> (first | rw [hb474] | (conv => arg 7; rw [hb474]))
                                        · refine st1 ?_
                                          rcases e_bif hF with ⟨hb475, hF⟩ | ⟨hb475, hF⟩ <;> (first | rw [hb475] | (conv => arg 7; rw [hb475]))
                                          · refine st1 ?_
                                            have hF := e_some hF
                                            have hF := e_some hF
                                            have hq : some _ = some _ := hF
                                            cases hq
                                            exact en1
                                          · refine st1 ?_
                                            exact k_loopF (e_some hF) hx2 () [(1, _), (14, _)] ⟨sT, sS, by rfl, by rfl⟩
                                        · refine st1 ?_
                                          exact k_loopF (e_some hF) hx2 () [(1, _), (14, _)] ⟨sT, sS, by rfl, by rfl⟩
                                    · refine st1 ?_
                                      rcases e_bif hF with ⟨hb476, hF⟩ | ⟨hb476, hF⟩ <;> (first | rw [hb476] | (conv => arg 7; rw [hb476]))
                                      · refine st1 ?_
                                        rcases e_bif hF with ⟨hb477, hF⟩ | ⟨hb477, hF⟩ <;> (first | rw [hb477] | (conv => arg 7; rw [hb477]))
                                        · refine st1 ?_
                                          have hF := e_some hF
                                          have hF := e_some hF
                                          have hq : some _ = some _ := hF
                                          cases hq
                                          exact en1
                                        · refine st1 ?_
                                          exact k_loopF (e_some hF) hx2 () [(1, _), (14, _)] ⟨sT, sS, by rfl, by rfl⟩
                                      · refine st1 ?_
                                        exact k_loopF (e_some hF) hx2 () [(1, _), (14, _)] ⟨sT, sS, by rfl, by rfl⟩
                                  · refine st1 ?_
                                    exact k_loopF (e_some hF) hx2 () [(1, _), (14, _)] ⟨sT, sS, by rfl, by rfl⟩
                          · refine st1 ?_
                            refine st_loopF (e_assoc hF) () [(1, _), (14, _)] ⟨sT, sS, by rfl, by rfl⟩ ?_
                            · as_aux_lemma =>
                              rintro n _ _ x hx3 hF
                              (conv => arg 7; whnf); (conv => arg 8; whnf); (conv => arg 9; whnf)
                              refine st1 ?_
                              rcases e_bif hF with ⟨hb481, hF⟩ | ⟨hb481, hF⟩ <;> (first | rw [hb481] | (conv => arg 7; rw [hb481]))
                              · refine st1 ?_
                                rcases e_bif hF with ⟨hb482, hF⟩ | ⟨hb482, hF⟩ <;> (first | rw [hb482] | (conv => arg 7; rw [hb482]))
                                · refine st1 ?_
                                  exact k_loopF (e_some hF) hx3 () [(1, _), (14, _)] ⟨sT, sS, by rfl, by rfl⟩
                                · refine st1 ?_
                                  have hF := e_some hF
                                  rcases e_bif hF with ⟨hb483, hF⟩ | ⟨hb483, hF⟩ <;> (first | rw [hb483] | (conv => arg 7; rw [hb483]))
                                  · refine st1 ?_
                                    rcases e_bif hF with ⟨hb484, hF⟩ | ⟨hb484, hF⟩ <;> (first | rw [hb484] | (conv => arg 7; rw [hb484]))
                                    · refine st1 ?_
                                      rcases e_bif hF with ⟨hb485, hF⟩ | ⟨hb485, hF⟩ <;> (first | rw [hb485] | (conv => arg 7; rw [hb485]))
                                      · refine st1 ?_
                                        have hF := e_some hF
                                        have hF := e_some hF
                                        have hq : some _ = some _ := hF
                                        cases hq
                                        exact en1
                                      · refine st1 ?_
                                        rcases e_bif hF with ⟨hb486, hF⟩ | ⟨hb486, hF⟩ <;> (first | rw [hb486] | (conv => arg 7; rw [hb486]))
                                        · refine st1 ?_
                                          rcases e_bif hF with ⟨hb487, hF⟩ | ⟨hb487, hF⟩ <;> (first | rw [hb487] | (conv => arg 7; rw [hb487]))
                                          · refine st1 ?_
                                            have hF := e_some hF
                                            have hF := e_some hF
                                            have hq : some _ = some _ := hF
                                            cases hq
                                            exact en1
                                          · refine st1 ?_
                                            exact k_loopF (e_some hF) hx2 () [(1, _), (14, _)] ⟨sT, sS, by rfl, by rfl⟩
                                        · refine st1 ?_
                                          exact k_loopF (e_some hF) hx2 () [(1, _), (14, _)] ⟨sT, sS, by rfl, by rfl⟩
                                    · refine st1 ?_
                                      rcases e_bif hF with ⟨hb488, hF⟩ | ⟨hb488, hF⟩ <;> (first | rw [hb488] | (conv => arg 7; rw [hb488]))
                                      · refine st1 ?_
                                        rcases e_bif hF with ⟨hb489, hF⟩ | ⟨hb489, hF⟩ <;> (first | rw [hb489] | (conv => arg 7; rw [hb489]))
                                        · refine st1 ?_
                                          have hF := e_some hF
                                          have hF := e_some hF
                                          have hq : some _ = some _ := hF
                                          cases hq
                                          exact en1
                                        · refine st1 ?_
                                          exact k_loopF (e_some hF) hx2 () [(1, _), (14, _)] ⟨sT, sS, by rfl, by rfl⟩
                                      · refine st1 ?_
                                        exact k_loopF (e_some hF) hx2 () [(1, _), (14, _)] ⟨sT, sS, by rfl, by rfl⟩
                                  · refine st1 ?_
                                    exact k_loopF (e_some hF) hx2 () [(1, _), (14, _)] ⟨sT, sS, by rfl, by rfl⟩
                              · refine st1 ?_
                                have hF := e_some hF
                                rcases e_bif hF with ⟨hb483, hF⟩ | ⟨hb483, hF⟩ <;> (first | rw [hb483] | (conv => arg 7; rw [hb483]))
                                · refine st1 ?_
                                  rcases e_bif hF with ⟨hb484, hF⟩ | ⟨hb484, hF⟩ <;> (first | rw [hb484] | (conv => arg 7; rw [hb484]))
                                  · refine st1 ?_
                                    rcases e_bif hF with ⟨hb485, hF⟩ | ⟨hb485, hF⟩ <;> (first | rw [hb485] | (conv => arg 7; rw [hb485]))
                                    · refine st1 ?_
                                      have hF := e_some hF
                                      have hF := e_some hF
                                      have hq : some _ = some _ := hF
                                      cases hq
                                      exact en1
                                    · refine st1 ?_
                                      rcases e_bif hF with ⟨hb486, hF⟩ | ⟨hb486, hF⟩ <;> (first | rw [hb486] | (conv => arg 7; rw [hb486]))
                                      · refine st1 ?_
                                        rcases e_bif hF with ⟨hb487, hF⟩ | ⟨hb487, hF⟩ <;> (first | rw [hb487] | (conv => arg 7; rw [hb487]))
                                        · refine st1 ?_
                                          have hF := e_some hF
                                          have hF := e_some hF
                                          have hq : some _ = some _ := hF
                                          cases hq
                                          exact en1
                                        · refine st1 ?_
                                          exact k_loopF (e_some hF) hx2 () [(1, _), (14, _)] ⟨sT, sS, by rfl, by rfl⟩
                                      · refine st1 ?_
                                        exact k_loopF (e_some hF) hx2 () [(1, _), (14, _)] ⟨sT, sS, by rfl, by rfl⟩
                                  · refine st1 ?_
                                    rcases e_bif hF with ⟨hb488, hF⟩ | ⟨hb488, hF⟩ <;> (first | rw [hb488] | (conv => arg 7; rw [hb488]))
                                    · refine st1 ?_
                                      rcases e_bif hF with ⟨hb489, hF⟩ | ⟨hb489, hF⟩ <;> (first | rw [hb489] | (conv => arg 7; rw [hb489]))
                                      · refine st1 ?_
                                        have hF := e_some hF
                                        have hF := e_some hF
                                        have hq : some _ = some _ := hF
                                        cases hq
                                        exact en1
                                      · refine st1 ?_
                                        exact k_loopF (e_some hF) hx2 () [(1, _), (14, _)] ⟨sT, sS, by rfl, by rfl⟩
                                    · refine st1 ?_
                                      exact k_loopF (e_some hF) hx2 () [(1, _), (14, _)] ⟨sT, sS, by rfl, by rfl⟩
                                · refine st1 ?_
                                  exact k_loopF (e_some hF) hx2 () [(1, _), (14, _)] ⟨sT, sS, by rfl, by rfl⟩
                        · refine st1 ?_
                          rcases e_bif hF with ⟨hb490, hF⟩ | ⟨hb490, hF⟩ <;> (first | rw [hb490] | (conv => arg 7; rw [hb490]))
                          · refine st1 ?_
                            rcases e_bif hF with ⟨hb491, hF⟩ | ⟨hb491, hF⟩ <;> (first | rw [hb491] | (conv => arg 7; rw [hb491]))
                            · refine st1 ?_
                              obtain ⟨_, h, hF⟩ := e_bind hF
                              (first | refine go_req (nz_ne h) ?_ | refine goT_req (nz_ne h) ?_)
                              (conv => arg 1; whnf)
                              refine st1 ?_
                              obtain ⟨_, h, hF⟩ := e_bind hF
                              (first | refine o_ia (enc := (eI .u8)) (s := 1) h (fun _ => rfl) (by decide) ?_ | refine o_iaT (enc := (eI .u8)) (s := 1) h (fun _ => rfl) (by decide) ?_)
                              intro _
                              refine st1 ?_
                              obtain ⟨_, hi136, hF⟩ := e_bind hF
                              (first | refine go_req (oidx_ok hi136 (by decide)) ?_ | refine goT_req (oidx_ok hi136 (by decide)) ?_)
                              (conv => arg 1; whnf)
                              refine st1 ?_
                              (first | refine o_ldA (enc := eTHullPlate) (s := 4) hi136 (fun _ => rfl) (by decide) ?_ | refine o_ldB (enc := eTHullPlate) (s := 4) hi136 (fun _ => rfl) (by decide) ?_ | refine o_ldC (enc := eTHullPlate) (s := 4) hi136 (fun _ => rfl) (by decide) ?_ | refine o_ldD (enc := eTHullPlate) (s := 4) hi136 (fun _ => rfl) (by decide) ?_ | refine o_ldAT (enc := eTHullPlate) (s := 4) hi136 (fun _ => rfl) (by decide) ?_ | refine o_ldBT (enc := eTHullPlate) (s := 4) hi136 (fun _ => rfl) (by decide) ?_ | refine o_ldCT (enc := eTHullPlate) (s := 4) hi136 (fun _ => rfl) (by decide) ?_ | refine o_ldDT (enc := eTHullPlate) (s := 4) hi136 (fun _ => rfl) (by decide) ?_)
                              (conv => arg 1; whnf)
                              refine st1 ?_
                              obtain ⟨_, h, hF⟩ := e_bind hF
                              (first | refine go_req (nz_ne h) ?_ | refine goT_req (nz_ne h) ?_)
                              (conv => arg 1; whnf)
                              refine st1 ?_
                              obtain ⟨_, h, hF⟩ := e_bind hF
                              (first | refine go_req (nz_ne h) ?_ | refine goT_req (nz_ne h) ?_)
                              (conv => arg 1; whnf)
                              refine st1 ?_
                              obtain ⟨_, h, hF⟩ := e_bind hF
                              (first | refine o_ia (enc := (eI .u8)) (s := 1) h (fun _ => rfl) (by decide) ?_ | refine o_iaT (enc := (eI .u8)) (s := 1) h (fun _ => rfl) (by decide) ?_)
                              intro _
                              refine st1 ?_
                              obtain ⟨_, hi139, hF⟩ := e_bind hF
                              (first | refine go_req (oidx_ok hi139 (by decide)) ?_ | refine goT_req (oidx_ok hi139 (by decide)) ?_)
                              (conv => arg 1; whnf)
                              refine st1 ?_
                              (first | refine o_ldA (enc := eTHullPlate) (s := 4) hi139 (fun _ => rfl) (by decide) ?_ | refine o_ldB (enc := eTHullPlate) (s := 4) hi139 (fun _ => rfl) (by decide) ?_ | refine o_ldC (enc := eTHullPlate) (s := 4) hi139 (fun _ => rfl) (by decide) ?_ | refine o_ldD (enc := eTHullPlate) (s := 4) hi139 (fun _ => rfl) (by decide) ?_ | refine o_ldAT (enc := eTHullPlate) (s := 4) hi139 (fun _ => rfl) (by decide) ?_ | refine o_ldBT (enc := eTHullPlate) (s := 4) hi139 (fun _ => rfl) (by decide) ?_ | refine o_ldCT (enc := eTHullPlate) (s := 4) hi139 (fun _ => rfl) (by decide) ?_ | refine o_ldDT (enc := eTHullPlate) (s := 4) hi139 (fun _ => rfl) (by decide) ?_)
                              (conv => arg 1; whnf)
                              refine st1 ?_
                              obtain ⟨_, h, hF⟩ := e_bind hF
                              (first | refine go_req (nz_ne h) ?_ | refine goT_req (nz_ne h) ?_)
                              (conv => arg 1; whnf)
                              refine st1 ?_
                              refine st_loopF (e_assoc hF) () [(1, _), (14, _)] ⟨sT, sS, by rfl, by rfl⟩ ?_
                              · as_aux_lemma =>
                                rintro n _ _ x hx3 hF
                                (conv => arg 7; whnf); (conv => arg 8; whnf); (conv => arg 9; whnf)
                                refine st1 ?_
                                rcases e_bif hF with ⟨hb495, hF⟩ | ⟨hb495, hF⟩ <;> (first | rw [hb495] | (conv => arg 7; rw [hb495]))
                                · refine st1 ?_
                                  rcases e_bif hF with ⟨hb496, hF⟩ | ⟨hb496, hF⟩ <;> (first | rw [hb496] | (conv => arg 7; rw [hb496]))
                                  · refine st1 ?_
                                    exact k_loopF (e_some hF) hx3 () [(1, _), (14, _)] ⟨sT, sS, by rfl, by rfl⟩
                                  · refine st1 ?_
                                    have hF := e_some hF
                                    rcases e_bif hF with ⟨hb497, hF⟩ | ⟨hb497, hF⟩ <;> (first | rw [hb497] | (conv => arg 7; rw [hb497]))
                                    · refine st1 ?_
                                      rcases e_bif hF with ⟨hb498, hF⟩ | ⟨hb498, hF⟩ <;> (first | rw [hb498] | (conv => arg 7; rw [hb498]))
                                      · refine st1 ?_
                                        rcases e_bif hF with ⟨hb499, hF⟩ | ⟨hb499, hF⟩ <;> (first | rw [hb499] | (conv => arg 7; rw [hb499]))
                                        · refine st1 ?_
                                          have hF := e_some hF
                                          have hF := e_some hF
                                          have hq : some _ = some _ := hF
                                          cases hq
                                          exact en1
                                        · refine st1 ?_
                                          rcases e_bif hF with ⟨hb500, hF⟩ | ⟨hb500, hF⟩ <;> (first | rw [hb500] | (conv => arg 7; rw [hb500]))
                                          · refine st1 ?_
                                            rcases e_bif hF with ⟨hb501, hF⟩ | ⟨hb501, hF⟩ <;> (first | rw [hb501] | (conv => arg 7; rw [hb501]))
                                            · refine st1 ?_
                                              have hF := e_some hF
                                              have hF := e_some hF
                                              have hq : some _ = some _ := hF
                                              cases hq
                                              exact en1
                                            · refine st1 ?_
                                              exact k_loopF (e_some hF) hx2 () [(1, _), (14, _)] ⟨sT, sS, by rfl, by rfl⟩
                                          · refine st1 ?_
                                            exact k_loopF (e_some hF) hx2 () [(1, _), (14, _)] ⟨sT, sS, by rfl, by rfl⟩
                                      · refine st1 ?_
                                        rcases e_bif hF with ⟨hb502, hF⟩ | ⟨hb502, hF⟩ <;> (first | rw [hb502] | (conv => arg 7; rw [hb502]))
                                        · refine st1 ?_
                                          rcases e_bif hF with ⟨hb503, hF⟩ | ⟨hb503, hF⟩ <;> (first | rw [hb503] | (conv => arg 7; rw [hb503]))
                                          · refine st1 ?_
                                            have hF := e_some hF
                                            have hF := e_some hF
                                            have hq : some _ = some _ := hF
                                            cases hq
                                            exact en1
                                          · refine st1 ?_
                                            exact k_loopF (e_some hF) hx2 () [(1, _), (14, _)] ⟨sT, sS, by rfl, by rfl⟩
                                        · refine st1 ?_
                                          exact k_loopF (e_some hF) hx2 () [(1, _), (14, _)] ⟨sT, sS, by rfl, by rfl⟩
                                    · refine st1 ?_
                                      exact k_loopF (e_some hF) hx2 () [(1, _), (14, _)] ⟨sT, sS, by rfl, by rfl⟩
                                · refine st1 ?_
                                  have hF := e_some hF
                                  rcases e_bif hF with ⟨hb497, hF⟩ | ⟨hb497, hF⟩ <;> (first | rw [hb497] | (conv => arg 7; rw [hb497]))
                                  · refine st1 ?_
                                    rcases e_bif hF with ⟨hb498, hF⟩ | ⟨hb498, hF⟩ <;> (first | rw [hb498] | (conv => arg 7; rw [hb498]))
                                    · refine st1 ?_
                                      rcases e_bif hF with ⟨hb499, hF⟩ | ⟨hb499, hF⟩ <;> (first | rw [hb499] | (conv => arg 7; rw [hb499]))
                                      · refine st1 ?_
                                        have hF := e_some hF
                                        have hF := e_some hF
                                        have hq : some _ = some _ := hF
                                        cases hq
                                        exact en1
                                      · refine st1 ?_
                                        rcases e_bif hF with ⟨hb500, hF⟩ | ⟨hb500, hF⟩ <;> (first | rw [hb500] | (conv => arg 7; rw [hb500]))
                                        · refine st1 ?_
                                          rcases e_bif hF with ⟨hb501, hF⟩ | ⟨hb501, hF⟩ <;> (first | rw [hb501] | (conv => arg 7; rw [hb501]))
                                          · refine st1 ?_
                                            have hF := e_some hF
                                            have hF := e_some hF
                                            have hq : some _ = some _ := hF
                                            cases hq
                                            exact en1
                                          · refine st1 ?_
                                            exact k_loopF (e_some hF) hx2 () [(1, _), (14, _)] ⟨sT, sS, by rfl, by rfl⟩
                                        · refine st1 ?_
                                          exact k_loopF (e_some hF) hx2 () [(1, _), (14, _)] ⟨sT, sS, by rfl, by rfl⟩
                                    · refine st1 ?_
                                      rcases e_bif hF with ⟨hb502, hF⟩ | ⟨hb502, hF⟩ <;> (first | rw [hb502] | (conv => arg 7; rw [hb502]))
                                      · refine st1 ?_
                                        rcases e_bif hF with ⟨hb503, hF⟩ | ⟨hb503, hF⟩ <;> (first | rw [hb503] | (conv => arg 7; rw [hb503]))
                                        · refine st1 ?_
                                          have hF := e_some hF
                                          have hF := e_some hF
                                          have hq : some _ = some _ := hF
                                          cases hq
                                          exact en1
                                        · refine st1 ?_
                                          exact k_loopF (e_some hF) hx2 () [(1, _), (14, _)] ⟨sT, sS, by rfl, by rfl⟩
                                      · refine st1 ?_
                                        exact k_loopF (e_some hF) hx2 () [(1, _), (14, _)] ⟨sT, sS, by rfl, by rfl⟩
                                  · refine st1 ?_
                                    exact k_loopF (e_some hF) hx2 () [(1, _), (14, _)] ⟨sT, sS, by rfl, by rfl⟩
                            · refine st1 ?_
                              refine st_loopF (e_assoc hF) () [(1, _), (14, _)] ⟨sT, sS, by rfl, by rfl⟩ ?_
                              · as_aux_lemma =>
                                rintro n _ _ x hx3 hF
                                (conv => arg 7; whnf); (conv => arg 8; whnf); (conv => arg 9; whnf)
                                refine st1 ?_
                                rcases e_bif hF with ⟨hb507, hF⟩ | ⟨hb507, hF⟩ <;> (first | rw [hb507] | (conv => arg 7; rw [hb507]))
                                · refine st1 ?_
                                  rcases e_bif hF with ⟨hb508, hF⟩ | ⟨hb508, hF⟩ <;> (first | rw [hb508] | (conv => arg 7; rw [hb508]))
                                  · refine st1 ?_
                                    exact k_loopF (e_some hF) hx3 () [(1, _), (14, _)] ⟨sT, sS, by rfl, by rfl⟩
                                  · refine st1 ?_
                                    have hF := e_some hF
                                    rcases e_bif hF with ⟨hb509, hF⟩ | ⟨hb509, hF⟩ <;> (first | rw [hb509] | (conv => arg 7; rw [hb509]))
                                    · refine st1 ?_
                                      rcases e_bif hF with ⟨hb510, hF⟩ | ⟨hb510, hF⟩ <;> (first | rw [hb510] | (conv => arg 7; rw [hb510]))
                                      · refine st1 ?_
                                        rcases e_bif hF with ⟨hb511, hF⟩ | ⟨hb511, hF⟩ <;> (first | rw [hb511] | (conv => arg 7; rw [hb511]))
                                        · refine st1 ?_
                                          have hF := e_some hF
                                          have hF := e_some hF
                                          have hq : some _ = some _ := hF
                                          cases hq
                                          exact en1
                                        · refine st1 ?_
                                          rcases e_bif hF with ⟨hb512, hF⟩ | ⟨hb512, hF⟩ <;> (first | rw [hb512] | (conv => arg 7; rw [hb512]))
                                          · refine st1 ?_
                                            rcases e_bif hF with ⟨hb513, hF⟩ | ⟨hb513, hF⟩ <;> (first | rw [hb513] | (conv => arg 7; rw [hb513]))
                                            · refine st1 ?_
                                              have hF := e_some hF
                                              have hF := e_some hF
                                              have hq : some _ = some _ := hF
                                              cases hq
                                              exact en1
                                            · refine st1 ?_
                                              exact k_loopF (e_some hF) hx2 () [(1, _), (14, _)] ⟨sT, sS, by rfl, by rfl⟩
                                          · refine st1 ?_
                                            exact k_loopF (e_some hF) hx2 () [(1, _), (14, _)] ⟨sT, sS, by rfl, by rfl⟩
                                      · refine st1 ?_
                                        rcases e_bif hF with ⟨hb514, hF⟩ | ⟨hb514, hF⟩ <;> (first | rw [hb514] | (conv => arg 7; rw [hb514]))
                                        · refine st1 ?_
                                          rcases e_bif hF with ⟨hb515, hF⟩ | ⟨hb515, hF⟩ <;> (first | rw [hb515] | (conv => arg 7; rw [hb515]))
                                          · refine st1 ?_
                                            have hF := e_some hF
                                            have hF := e_some hF
                                            have hq : some _ = some _ := hF
                                            cases hq
                                            exact en1
                                          · refine st1 ?_
                                            exact k_loopF (e_some hF) hx2 () [(1, _), (14, _)] ⟨sT, sS, by rfl, by rfl⟩
                                        · refine st1 ?_
                                          exact k_loopF (e_some hF) hx2 () [(1, _), (14, _)] ⟨sT, sS, by rfl, by rfl⟩
                                    · refine st1 ?_
                                      exact k_loopF (e_some hF) hx2 () [(1, _), (14, _)] ⟨sT, sS, by rfl, by rfl⟩
                                · refine st1 ?_
                                  have hF := e_some hF
                                  rcases e_bif hF with ⟨hb509, hF⟩ | ⟨hb509, hF⟩ <;> (first | rw [hb509] | (conv => arg 7; rw [hb509]))
                                  · refine st1 ?_
                                    rcases e_bif hF with ⟨hb510, hF⟩ | ⟨hb510, hF⟩ <;> (first | rw [hb510] | (conv => arg 7; rw [hb510]))
                                    · refine st1 ?_
                                      rcases e_bif hF with ⟨hb511, hF⟩ | ⟨hb511, hF⟩ <;> (first | rw [hb511] | (conv => arg 7; rw [hb511]))
                                      · refine st1 ?_
                                        have hF := e_some hF
                                        have hF := e_some hF
                                        have hq : some _ = some _ := hF
                                        cases hq
                                        exact en1
                                      · refine st1 ?_
                                        rcases e_bif hF with ⟨hb512, hF⟩ | ⟨hb512, hF⟩ <;> (first | rw [hb512] | (conv => arg 7; rw [hb512]))
                                        · refine st1 ?_
                                          rcases e_bif hF with ⟨hb513, hF⟩ | ⟨hb513, hF⟩ <;> (first | rw [hb513] | (conv => arg 7; rw [hb513]))
                                          · refine st1 ?_
                                            have hF := e_some hF
                                            have hF := e_some hF
                                            have hq : some _ = some _ := hF
                                            cases hq
                                            exact en1
                                          · refine st1 ?_
                                            exact k_loopF (e_some hF) hx2 () [(1, _), (14, _)] ⟨sT, sS, by rfl, by rfl⟩
                                        · refine st1 ?_
                                          exact k_loopF (e_some hF) hx2 () [(1, _), (14, _)] ⟨sT, sS, by rfl, by rfl⟩
                                    · refine st1 ?_
                                      rcases e_bif hF with ⟨hb514, hF⟩ | ⟨hb514, hF⟩ <;> (first | rw [hb514] | (conv => arg 7; rw [hb514]))
                                      · refine st1 ?_
                                        rcases e_bif hF with ⟨hb515, hF⟩ | ⟨hb515, hF⟩ <;> (first | rw [hb515] | (conv => arg 7; rw [hb515]))
                                        · refine st1 ?_
                                          have hF := e_some hF
                                          have hF := e_some hF
                                          have hq : some _ = some _ := hF
                                          cases hq
                                          exact en1
                                        · refine st1 ?_
                                          exact k_loopF (e_some hF) hx2 () [(1, _), (14, _)] ⟨sT, sS, by rfl, by rfl⟩
                                      · refine st1 ?_
                                        exact k_loopF (e_some hF) hx2 () [(1, _), (14, _)] ⟨sT, sS, by rfl, by rfl⟩
                                  · refine st1 ?_
                                    exact k_loopF (e_some hF) hx2 () [(1, _), (14, _)] ⟨sT, sS, by rfl, by rfl⟩
                          · refine st1 ?_
                            refine st_loopF (e_assoc hF) () [(1, _), (14, _)] ⟨sT, sS, by rfl, by rfl⟩ ?_
                            · as_aux_lemma =>
                              rintro n _ _ x hx3 hF
                              (conv => arg 7; whnf); (conv => arg 8; whnf); (conv => arg 9; whnf)
                              refine st1 ?_
                              rcases e_bif hF with ⟨hb519, hF⟩ | ⟨hb519, hF⟩ <;> (first | rw [hb519] | (conv => arg 7; rw [hb519]))
                              · refine st1 ?_
                                rcases e_bif hF with ⟨hb520, hF⟩ | ⟨hb520, hF⟩ <;> (first | rw [hb520] | (conv => arg 7; rw [hb520]))
                                · refine st1 ?_
                                  exact k_loopF (e_some hF) hx3 () [(1, _), (14, _)] ⟨sT, sS, by rfl, by rfl⟩
                                · refine st1 ?_
                                  have hF := e_some hF
                                  rcases e_bif hF with ⟨hb521, hF⟩ | ⟨hb521, hF⟩ <;> (first | rw [hb521] | (conv => arg 7; rw [hb521]))
                                  · refine st1 ?_
                                    rcases e_bif hF with ⟨hb522, hF⟩ | ⟨hb522, hF⟩ <;> (first | rw [hb522] | (conv => arg 7; rw [hb522]))
                                    · refine st1 ?_
                                      rcases e_bif hF with ⟨hb523, hF⟩ | ⟨hb523, hF⟩ <;> (first | rw [hb523] | (conv => arg 7; rw [hb523]))
                                      · refine st1 ?_
                                        have hF := e_some hF
                                        have hF := e_some hF
                                        have hq : some _ = some _ := hF
                                        cases hq
                                        exact en1
                                      · refine st1 ?_
                                        rcases e_bif hF with ⟨hb524, hF⟩ | ⟨hb524, hF⟩ <;> (first | rw [hb524] | (conv => arg 7; rw [hb524]))
                                        · refine st1 ?_
                                          rcases e_bif hF with ⟨hb525, hF⟩ | ⟨hb525, hF⟩ <;> (first | rw [hb525] | (conv => arg 7; rw [hb525]))
                                          · refine st1 ?_
                                            have hF := e_some hF
                                            have hF := e_some hF
                                            have hq : some _ = some _ := hF
                                            cases hq
                                            exact en1
                                          · refine st1 ?_
                                            exact k_loopF (e_some hF) hx2 () [(1, _), (14, _)] ⟨sT, sS, by rfl, by rfl⟩
                                        · refine st1 ?_
                                          exact k_loopF (e_some hF) hx2 () [(1, _), (14, _)] ⟨sT, sS, by rfl, by rfl⟩
                                    · refine st1 ?_
                                      rcases e_bif hF with ⟨hb526, hF⟩ | ⟨hb526, hF⟩ <;> (first | rw [hb526] | (conv => arg 7; rw [hb526]))
                                      · refine st1 ?_
                                        rcases e_bif hF with ⟨hb527, hF⟩ | ⟨hb527, hF⟩ <;> (first | rw [hb527] | (conv => arg 7; rw [hb527]))
                                        · refine st1 ?_
                                          have hF := e_some hF
                                          have hF := e_some hF
                                          have hq : some _ = some _ := hF
                                          cases hq
                                          exact en1
                                        · refine st1 ?_
                                          exact k_loopF (e_some hF) hx2 () [(1, _), (14, _)] ⟨sT, sS, by rfl, by rfl⟩
                                      · refine st1 ?_
                                        exact k_loopF (e_some hF) hx2 () [(1, _), (14, _)] ⟨sT, sS, by rfl, by rfl⟩
                                  · refine st1 ?_
                                    exact k_loopF (e_some hF) hx2 () [(1, _), (14, _)] ⟨sT, sS, by rfl, by rfl⟩
                              · refine st1 ?_
                                have hF := e_some hF
                                rcases e_bif hF with ⟨hb521, hF⟩ | ⟨hb521, hF⟩ <;> (first | rw [hb521] | (conv => arg 7; rw [hb521]))
                                · refine st1 ?_
                                  rcases e_bif hF with ⟨hb522, hF⟩ | ⟨hb522, hF⟩ <;> (first | rw [hb522] | (conv => arg 7; rw [hb522]))
                                  · refine st1 ?_
                                    rcases e_bif hF with ⟨hb523, hF⟩ | ⟨hb523, hF⟩ <;> (first | rw [hb523] | (conv => arg 7; rw [hb523]))
                                    · refine st1 ?_
                                      have hF := e_some hF
                                      have hF := e_some hF
                                      have hq : some _ = some _ := hF
                                      cases hq
                                      exact en1
                                    · refine st1 ?_
                                      rcases e_bif hF with ⟨hb524, hF⟩ | ⟨hb524, hF⟩ <;> (first | rw [hb524] | (conv => arg 7; rw [hb524]))
                                      · refine st1 ?_
                                        rcases e_bif hF with ⟨hb525, hF⟩ | ⟨hb525, hF⟩ <;> (first | rw [hb525] | (conv => arg 7; rw [hb525]))
                                        · refine st1 ?_
                                          have hF := e_some hF
                                          have hF := e_some hF
                                          have hq : some _ = some _ := hF
                                          cases hq
                                          exact en1
                                        · refine st1 ?_
                                          exact k_loopF (e_some hF) hx2 () [(1, _), (14, _)] ⟨sT, sS, by rfl, by rfl⟩
                                      · refine st1 ?_
                                        exact k_loopF (e_some hF) hx2 () [(1, _), (14, _)] ⟨sT, sS, by rfl, by rfl⟩
                                  · refine st1 ?_
                                    rcases e_bif hF with ⟨hb526, hF⟩ | ⟨hb526, hF⟩ <;> (first | rw [hb526] | (conv => arg 7; rw [hb526]))
                                    · refine st1 ?_
                                      rcases e_bif hF with ⟨hb527, hF⟩ | ⟨hb527, hF⟩ <;> (first | rw [hb527] | (conv => arg 7; rw [hb527]))
                                      · refine st1 ?_
                                        have hF := e_some hF
                                        have hF := e_some hF
                                        have hq : some _ = some _ := hF
                                        cases hq
                                        exact en1
                                      · refine st1 ?_
                                        exact k_loopF (e_some hF) hx2 () [(1, _), (14, _)] ⟨sT, sS, by rfl, by rfl⟩
                                    · refine st1 ?_
                                      exact k_loopF (e_some hF) hx2 () [(1, _), (14, _)] ⟨sT, sS, by rfl, by rfl⟩
                                · refine st1 ?_
                                  exact k_loopF (e_some hF) hx2 () [(1, _), (14, _)] ⟨sT, sS, by rfl, by rfl⟩
                      · refine st1 ?_
                        have hF := e_some hF
                        rcases e_bif hF with ⟨hb528, hF⟩ | ⟨hb528, hF⟩ <;> (first | rw [hb528] | (conv => arg 7; rw [hb528]))
                        · refine st1 ?_
                          have hF := e_some hF
                          have hq : some _ = some _ := hF
                          cases hq
                          exact en1
                        · refine st1 ?_
                          rcases e_bif hF with ⟨hb529, hF⟩ | ⟨hb529, hF⟩ <;> (first | rw [hb529] | (conv => arg 7; rw [hb529]))
                          · refine st1 ?_
                            have hF := e_some hF
                            have hq : some _ = some _ := hF
                            cases hq
                            exact en1
                          · refine st1 ?_
                            rcases e_bif hF with ⟨hb530, hF⟩ | ⟨hb530, hF⟩ <;> (first | rw [hb530] | (conv => arg 7; rw [hb530]))
                            · refine st1 ?_
                              rcases e_bif hF with ⟨hb531, hF⟩ | ⟨hb531, hF⟩ <;> (first | rw [hb531] | (conv => arg 7; rw [hb531]))
                              · refine st1 ?_
                                have hF := e_some hF
                                have hq : some _ = some _ := hF
                                cases hq
                                exact en1
                              · refine st1 ?_
                                rcases e_bif hF with ⟨hb532, hF⟩ | ⟨hb532, hF⟩ <;> (first | rw [hb532] | (conv => arg 7; rw [hb532]))
                                · refine st1 ?_
                                  rcases e_bif hF with ⟨hb533, hF⟩ | ⟨hb533, hF⟩ <;> (first | rw [hb533] | (conv => arg 7; rw [hb533]))
                                  · refine st1 ?_
                                    have hF := e_some hF
                                    have hq : some _ = some _ := hF
                                    cases hq
                                    exact en1
                                  · refine st1 ?_
                                    exact k_loopF (e_some hF) hx1 () [(1, _), (14, _)] ⟨sT, sS, by rfl, by rfl⟩
                                · refine st1 ?_
                                  exact k_loopF (e_some hF) hx1 () [(1, _), (14, _)] ⟨sT, sS, by rfl, by rfl⟩
                            · refine st1 ?_
                              rcases e_bif hF with ⟨hb534, hF⟩ | ⟨hb534, hF⟩ <;> (first | rw [hb534] | (conv => arg 7; rw [hb534]))
                              · refine st1 ?_
                                rcases e_bif hF with ⟨hb535, hF⟩ | ⟨hb535, hF⟩ <;> (first | rw [hb535] | (conv => arg 7; rw [hb535]))
                                · refine st1 ?_
                                  have hF := e_some hF
                                  have hq : some _ = some _ := hF
                                  cases hq
                                  exact en1
                                · refine st1 ?_
                                  exact k_loopF (e_some hF) hx1 () [(1, _), (14, _)] ⟨sT, sS, by rfl, by rfl⟩
                              · refine st1 ?_
                                exact k_loopF (e_some hF) hx1 () [(1, _), (14, _)] ⟨sT, sS, by rfl, by rfl⟩
                  · refine st1 ?_
                    have hF := e_some hF
                    obtain ⟨_, h, hF⟩ := e_bind hF
                    (first | refine o_slc (enc := eTHullPlate) (s := 4) h (fun _ => rfl) ?_ | refine o_slcT (enc := eTHullPlate) (s := 4) h (fun _ => rfl) ?_)
                    refine st1 ?_
                    obtain ⟨_, h, hF⟩ := e_bind hF
                    (first | refine o_app (enc := eTHullPlate) (s := 4) h (fun _ => rfl) ?_ | refine o_appT (enc := eTHullPlate) (s := 4) h (fun _ => rfl) ?_)
                    refine st1 ?_
                    obtain ⟨_, h, hF⟩ := e_bind hF
                    (first | refine g_call h lv1 ?_ | refine g_callT h lv1 ?_)
                    (conv => arg 1; whnf)
                    refine st1 ?_
                    rcases e_bif hF with ⟨hb536, hF⟩ | ⟨hb536, hF⟩ <;> (first | rw [hb536] | (conv => arg 7; rw [hb536]))
                    · refine st1 ?_
                      rcases e_bif hF with ⟨hb537, hF⟩ | ⟨hb537, hF⟩ <;> (first | rw [hb537] | (conv => arg 7; rw [hb537]))
                      · refine st1 ?_
                        obtain ⟨_, h, hF⟩ := e_bind hF
                        (first | refine g_call h lv1 ?_ | refine g_callT h lv1 ?_)
                        (conv => arg 1; whnf)
                        refine st1 ?_
                        have hq : some _ = some _ := hF
                        cases hq
                        exact en1
                      · refine st1 ?_
                        rcases e_bif hF with ⟨hb538, hF⟩ | ⟨hb538, hF⟩ <;> (first | rw [hb538] | (conv => arg 7; rw [hb538]))
                        · refine st1 ?_
                          rcases e_bif hF with ⟨hb539, hF⟩ | ⟨hb539, hF⟩ <;> (first | rw [hb539] | (conv => arg 7; rw [hb539]))
                          · refine st1 ?_
                            rcases e_bif hF with ⟨hb540, hF⟩ | ⟨hb540, hF⟩ <;> (first | rw [hb540] | (conv => arg 7; rw [hb540]))
                            · refine st1 ?_
                              obtain ⟨_, h, hF⟩ := e_bind hF
                              (first | refine g_call h lv1 ?_ | refine g_callT h lv1 ?_)
                              (conv => arg 1; whnf)
                              refine st1 ?_
                              have hq : some _ = some _ := hF
                              cases hq
                              exact en1
                            · refine st1 ?_
                              have hq : some _ = some _ := hF
                              cases hq
                              exact en1
                          · refine st1 ?_
                            have hq : some _ = some _ := hF
                            cases hq
                            exact en1
                        · refine st1 ?_
                          have hq : some _ = some _ := hF
                          cases hq
                          exact en1
                    · refine st1 ?_
                      rcases e_bif hF with ⟨hb541, hF⟩ | ⟨hb541, hF⟩ <;> (first | rw [hb541] | (conv => arg 7; rw [hb541]))
                      · refine st1 ?_
                        rcases e_bif hF with ⟨hb542, hF⟩ | ⟨hb542, hF⟩ <;> (first | rw [hb542] | (conv => arg 7; rw [hb542]))
                        · refine st1 ?_
                          rcases e_bif hF with ⟨hb543, hF⟩ | ⟨hb543, hF⟩ <;> (first | rw [hb543] | (conv => arg 7; rw [hb543]))
                          · refine st1 ?_
                            obtain ⟨_, h, hF⟩ := e_bind hF
                            (first | refine g_call h lv1 ?_ | refine g_callT h lv1 ?_)
                            (conv => arg 1; whnf)
                            refine st1 ?_
                            have hq : some _ = some _ := hF
                            cases hq
                            exact en1
                          · refine st1 ?_
                            have hq : some _ = some _ := hF
                            cases hq
                            exact en1
                        · refine st1 ?_
                          have hq : some _ = some _ := hF
                          cases hq
                          exact en1
                      · refine st1 ?_
                        have hq : some _ = some _ := hF
                        cases hq
                        exact en1
    · refine st1 ?_
      have hF := e_some hF
      obtain ⟨_, h, hF⟩ := e_bind hF
      (first | refine o_app (enc := eTHullPlate) (s := 4) h (fun _ => rfl) ?_ | refine o_appT (enc := eTHullPlate) (s := 4) h (fun _ => rfl) ?_)
      refine st1 ?_
      obtain ⟨_, h, hF⟩ := e_bind hF
      (first | refine g_call h lv1 ?_ | refine g_callT h lv1 ?_)
      (conv => arg 1; whnf)
      refine st1 ?_
      rcases e_bif hF with ⟨hb6, hF⟩ | ⟨hb6, hF⟩ <;> (first | rw [hb6] | (conv => arg 7; rw [hb6]))
      · refine st1 ?_
        rcases e_bif hF with ⟨hb7, hF⟩ | ⟨hb7, hF⟩ <;> (first | rw [hb7] | (conv => arg 7; rw [hb7]))
        · refine st1 ?_
          obtain ⟨_, h, hF⟩ := e_bind hF
          (first | refine g_call h lv1 ?_ | refine g_callT h lv1 ?_)
          (conv => arg 1; whnf)
          refine st1 ?_
          have hq : some _ = some _ := hF
          cases hq
          exact en1
        · refine st1 ?_
          have hq : some _ = some _ := hF
          cases hq
          exact en1
      · refine st1 ?_
        rcases e_bif hF with ⟨hb8, hF⟩ | ⟨hb8, hF⟩ <;> (first | rw [hb8] | (conv => arg 7; rw [hb8]))
        · refine st1 ?_
          have hq : some _ = some _ := hF
          cases hq
          exact en1
        · refine st1 ?_
          rcases e_bif hF with ⟨hb9, hF⟩ | ⟨hb9, hF⟩ <;> (first | rw [hb9] | (conv => arg 7; rw [hb9]))
          · refine st1 ?_
            have hq : some _ = some _ := hF
            cases hq
            exact en1
          · refine st1 ?_
            rcases e_bif hF with ⟨hb10, hF⟩ | ⟨hb10, hF⟩ <;> (first | rw [hb10] | (conv => arg 7; rw [hb10]))
            · refine st1 ?_
              have hq : some _ = some _ := hF
              cases hq
              exact en1
            · refine st1 ?_
              refine st_loopF (e_assoc hF) () [(1, _), (14, _)] ⟨sT, sS, by rfl, by rfl⟩ ?_
              · as_aux_lemma =>
                rintro n _ _ x hx1 hF
                (conv => arg 7; whnf); (conv => arg 8; whnf); (conv => arg 9; whnf)
                refine st1 ?_
                rcases e_bif hF with ⟨hb293, hF⟩ | ⟨hb293, hF⟩ <;> (first | rw [hb293] | (conv => arg 7; rw [hb293]))
                · refine st1 ?_
                  refine st_loopF (e_assoc hF) () [(1, _), (14, _)] ⟨sT, sS, by rfl, by rfl⟩ ?_
                  · as_aux_lemma =>
                    rintro n ⟨_, _⟩ _ x hx2 hF
                    (conv => arg 7; whnf); (conv => arg 8; whnf); (conv => arg 9; whnf)
                    refine st1 ?_
                    rcases e_bif hF with ⟨hb450, hF⟩ | ⟨hb450, hF⟩ <;> (first | rw [hb450] | (conv => arg 7; rw [hb450]))
                    · refine st1 ?_
                      obtain ⟨_, hi115, hF⟩ := e_bind hF
                      (first | refine go_req (oidx_ok hi115 (by decide)) ?_ | refine goT_req (oidx_ok hi115 (by decide)) ?_)
                      (conv => arg 1; whnf)
                      refine st1 ?_
                      (first | refine o_ldA (enc := eTHullPlate) (s := 4) hi115 (fun _ => rfl) (by decide) ?_ | refine o_ldB (enc := eTHullPlate) (s := 4) hi115 (fun _ => rfl) (by decide) ?_ | refine o_ldC (enc := eTHullPlate) (s := 4) hi115 (fun _ => rfl) (by decide) ?_ | refine o_ldD (enc := eTHullPlate) (s := 4) hi115 (fun _ => rfl) (by decide) ?_ | refine o_ldAT (enc := eTHullPlate) (s := 4) hi115 (fun _ => rfl) (by decide) ?_ | refine o_ldBT (enc := eTHullPlate) (s := 4) hi115 (fun _ => rfl) (by decide) ?_ | refine o_ldCT (enc := eTHullPlate) (s := 4) hi115 (fun _ => rfl) (by decide) ?_ | refine o_ldDT (enc := eTHullPlate) (s := 4) hi115 (fun _ => rfl) (by decide) ?_)
                      (conv => arg 1; whnf)
                      refine st1 ?_
                      obtain ⟨_, hi117, hF⟩ := e_bind hF
                      (first | refine go_req (oidx_ok hi117 (by decide)) ?_ | refine goT_req (oidx_ok hi117 (by decide)) ?_)
                      (conv => arg 1; whnf)
                      refine st1 ?_
                      (first | refine o_ldA (enc := eTHullPlate) (s := 4) hi117 (fun _ => rfl) (by decide) ?_ | refine o_ldB (enc := eTHullPlate) (s := 4) hi117 (fun _ => rfl) (by decide) ?_ | refine o_ldC (enc := eTHullPlate) (s := 4) hi117 (fun _ => rfl) (by decide) ?_ | refine o_ldD (enc := eTHullPlate) (s := 4) hi117 (fun _ => rfl) (by decide) ?_ | refine o_ldAT (enc := eTHullPlate) (s := 4) hi117 (fun _ => rfl) (by decide) ?_ | refine o_ldBT (enc := eTHullPlate) (s := 4) hi117 (fun _ => rfl) (by decide) ?_ | refine o_ldCT (enc := eTHullPlate) (s := 4) hi117 (fun _ => rfl) (by decide) ?_ | refine o_ldDT (enc := eTHullPlate) (s := 4) hi117 (fun _ => rfl) (by decide) ?_)
                      (conv => arg 1; whnf)
                      refine st1 ?_
                      rcases e_bif hF with ⟨hb451, hF⟩ | ⟨hb451, hF⟩ <;> (first | rw [hb451] | (conv => arg 7; rw [hb451]))
                      · refine st1 ?_
                        obtain ⟨_, hi119, hF⟩ := e_bind hF
                        (first | refine go_req (oidx_ok hi119 (by decide)) ?_ | refine goT_req (oidx_ok hi119 (by decide)) ?_)
                        (conv => arg 1; whnf)
                        refine st1 ?_
                        (first | refine o_ldA (enc := eTHullPlate) (s := 4) hi119 (fun _ => rfl) (by decide) ?_ | refine o_ldB (enc := eTHullPlate) (s := 4) hi119 (fun _ => rfl) (by decide) ?_ | refine o_ldC (enc := eTHullPlate) (s := 4) hi119 (fun _ => rfl) (by decide) ?_ | refine o_ldD (enc := eTHullPlate) (s := 4) hi119 (fun _ => rfl) (by decide) ?_ | refine o_ldAT (enc := eTHullPlate) (s := 4) hi119 (fun _ => rfl) (by decide) ?_ | refine o_ldBT (enc := eTHullPlate) (s := 4) hi119 (fun _ => rfl) (by decide) ?_ | refine o_ldCT (enc := eTHullPlate) (s := 4) hi119 (fun _ => rfl) (by decide) ?_ | refine o_ldDT (enc := eTHullPlate) (s := 4) hi119 (fun _ => rfl) (by decide) ?_)
                        (conv => arg 1; whnf)
                        refine st1 ?_
                        obtain ⟨_, hi121, hF⟩ := e_bind hF
                        (first | refine go_req (oidx_ok hi121 (by decide)) ?_ | refine goT_req (oidx_ok hi121 (by decide)) ?_)
                        (conv => arg 1; whnf)
                        refine st1 ?_
                        (first | refine o_ldA (enc := eTHullPlate) (s := 4) hi121 (fun _ => rfl) (by decide) ?_ | refine o_ldB (enc := eTHullPlate) (s := 4) hi121 (fun _ => rfl) (by decide) ?_ | refine o_ldC (enc := eTHullPlate) (s := 4) hi121 (fun _ => rfl) (by decide) ?_ | refine o_ldD (enc := eTHullPlate) (s := 4) hi121 (fun _ => rfl) (by decide) ?_ | refine o_ldAT (enc := eTHullPlate) (s := 4) hi121 (fun _ => rfl) (by decide) ?_ | refine o_ldBT (enc := eTHullPlate) (s := 4) hi121 (fun _ => rfl) (by decide) ?_ | refine o_ldCT (enc := eTHullPlate) (s := 4) hi121 (fun _ => rfl) (by decide) ?_ | refine o_ldDT (enc := eTHullPlate) (s := 4) hi121 (fun _ => rfl) (by decide) ?_)
                        (conv => arg 1; whnf)
                        refine st1 ?_
                        rcases e_bif hF with ⟨hb452, hF⟩ | ⟨hb452, hF⟩ <;> (first | rw [hb452] | (conv => arg 7; rw [hb452]))
                        · refine st1 ?_
                          rcases e_bif hF with ⟨hb453, hF⟩ | ⟨hb453, hF⟩ <;> (first | rw [hb453] | (conv => arg 7; rw [hb453]))
                          · refine st1 ?_
                            obtain ⟨_, h, hF⟩ := e_bind hF
                            (first | refine go_req (nz_ne h) ?_ | refine goT_req (nz_ne h) ?_)
                            (conv => arg 1; whnf)
                            refine st1 ?_
                            obtain ⟨_, h, hF⟩ := e_bind hF
                            (first | refine o_ia (enc := (eI .u8)) (s := 1) h (fun _ => rfl) (by decide) ?_ | refine o_iaT (enc := (eI .u8)) (s := 1) h (fun _ => rfl) (by decide) ?_)
                            intro _
                            refine st1 ?_
                            obtain ⟨_, hi124, hF⟩ := e_bind hF
                            (first | refine go_req (oidx_ok hi124 (by decide)) ?_ | refine goT_req (oidx_ok hi124 (by decide)) ?_)
                            (conv => arg 1; whnf)
                            refine st1 ?_
                            (first | refine o_ldA (enc := eTHullPlate) (s := 4) hi124 (fun _ => rfl) (by decide) ?_ | refine o_ldB (enc := eTHullPlate) (s := 4) hi124 (fun _ => rfl) (by decide) ?_ | refine o_ldC (enc := eTHullPlate) (s := 4) hi124 (fun _ => rfl) (by decide) ?_ | refine o_ldD (enc := eTHullPlate) (s := 4) hi124 (fun _ => rfl) (by decide) ?_ | refine o_ldAT (enc := eTHullPlate) (s := 4) hi124 (fun _ => rfl) (by decide) ?_ | refine o_ldBT (enc := eTHullPlate) (s := 4) hi124 (fun _ => rfl) (by decide) ?_ | refine o_ldCT (enc := eTHullPlate) (s := 4) hi124 (fun _ => rfl) (by decide) ?_ | refine o_ldDT (enc := eTHullPlate) (s := 4) hi124 (fun _ => rfl) (by decide) ?_)
                            (conv => arg 1; whnf)
                            refine st1 ?_
                            obtain ⟨_, h, hF⟩ := e_bind hF
                            (first | refine go_req (nz_ne h) ?_ | refine goT_req (nz_ne h) ?_)
                            (conv => arg 1; whnf)
                            refine st1 ?_
                            obtain ⟨_, h, hF⟩ := e_bind hF
                            (first | refine go_req (nz_ne h) ?_ | refine goT_req (nz_ne h) ?_)
                            (conv => arg 1; whnf)
                            refine st1 ?_
                            obtain ⟨_, h, hF⟩ := e_bind hF
                            (first | refine o_ia (enc := (eI .u8)) (s := 1) h (fun _ => rfl) (by decide) ?_ | refine o_iaT (enc := (eI .u8)) (s := 1) h (fun _ => rfl) (by decide) ?_)
                            intro _
                            refine st1 ?_
                            obtain ⟨_, hi127, hF⟩ := e_bind hF
                            (first | refine go_req (oidx_ok hi127 (by decide)) ?_ | refine goT_req (oidx_ok hi127 (by decide)) ?_)
                            (conv => arg 1; whnf)
                            refine st1 ?_
                            (first | refine o_ldA (enc := eTHullPlate) (s := 4) hi127 (fun _ => rfl) (by decide) ?_ | refine o_ldB (enc := eTHullPlate) (s := 4) hi127 (fun _ => rfl) (by decide) ?_ | refine o_ldC (enc := eTHullPlate) (s := 4) hi127 (fun _ => rfl) (by decide) ?_ | refine o_ldD (enc := eTHullPlate) (s := 4) hi127 (fun _ => rfl) (by decide) ?_ | refine o_ldAT (enc := eTHullPlate) (s := 4) hi127 (fun _ => rfl) (by decide) ?_ | refine o_ldBT (enc := eTHullPlate) (s := 4) hi127 (fun _ => rfl) (by decide) ?_ | refine o_ldCT (enc := eTHullPlate) (s := 4) hi127 (fun _ => rfl) (by decide) ?_ | refine o_ldDT (enc := eTHullPlate) (s := 4) hi127 (fun _ => rfl) (by decide) ?_)
                            (conv => arg 1; whnf)
                            refine st1 ?_
                            obtain ⟨_, h, hF⟩ := e_bind hF
                            (first | refine go_req (nz_ne h) ?_ | refine goT_req (nz_ne h) ?_)
                            (conv => arg 1; whnf)
                            refine st1 ?_
                            refine st_loopF (e_assoc hF) () [(1, _), (14, _)] ⟨sT, sS, by rfl, by rfl⟩ ?_
                            · as_aux_lemma =>
                              rintro n _ _ x hx3 hF
                              (conv => arg 7; whnf); (conv => arg 8; whnf); (conv => arg 9; whnf)
                              refine st1 ?_
                              rcases e_bif hF with ⟨hb457, hF⟩ | ⟨hb457, hF⟩ <;> (first | rw [hb457] | (conv => arg 7; rw [hb457]))
                              · refine st1 ?_
                                rcases e_bif hF with ⟨hb458, hF⟩ | ⟨hb458, hF⟩ <;> (first | rw [hb458] | (conv => arg 7; rw [hb458]))
                                · refine st1 ?_
                                  exact k_loopF (e_some hF) hx3 () [(1, _), (14, _)] ⟨sT, sS, by rfl, by rfl⟩
                                · refine st1 ?_
                                  have hF := e_some hF
                                  rcases e_bif hF with ⟨hb459, hF⟩ | ⟨hb459, hF⟩ <;> (first | rw [hb459] | (conv => arg 7; rw [hb459]))
                                  · refine st1 ?_
                                    rcases e_bif hF with ⟨hb460, hF⟩ | ⟨hb460, hF⟩ <;> (first | rw [hb460] | (conv => arg 7; rw [hb460]))
                                    · refine st1 ?_
                                      rcases e_bif hF with ⟨hb461, hF⟩ | ⟨hb461, hF⟩ <;> (first | rw [hb461] | (conv => arg 7; rw [hb461]))
                                      · refine st1 ?_
                                        have hF := e_some hF
                                        have hF := e_some hF
                                        have hq : some _ = some _ := hF
                                        cases hq
                                        exact en1
                                      · refine st1 ?_
                                        rcases e_bif hF with ⟨hb462, hF⟩ | ⟨hb462, hF⟩ <;> (first | rw [hb462] | (conv => arg 7; rw [hb462]))
                                        · refine st1 ?_
                                          rcases e_bif hF with ⟨hb463, hF⟩ | ⟨hb463, hF⟩ <;> (first | rw [hb463] | (conv => arg 7; rw [hb463]))
                                          · refine st1 ?_
                                            have hF := e_some hF
                                            have hF := e_some hF
                                            have hq : some _ = some _ := hF
                                            cases hq
                                            exact en1
                                          · refine st1 ?_
                                            exact k_loopF (e_some hF) hx2 () [(1, _), (14, _)] ⟨sT, sS, by rfl, by rfl⟩
                                        · refine st1 ?_
                                          exact k_loopF (e_some hF) hx2 () [(1, _), (14, _)] ⟨sT, sS, by rfl, by rfl⟩
                                    · refine st1 ?_
                                      rcases e_bif hF with ⟨hb464, hF⟩ | ⟨hb464, hF⟩ <;> (first | rw [hb464] | (conv => arg 7; rw [hb464]))
                                      · refine st1 ?_
                                        rcases e_bif hF with ⟨hb465, hF⟩ | ⟨hb465, hF⟩ <;> (first | rw [hb465] | (conv => arg 7; rw [hb465]))
                                        · refine st1 ?_
                                          have hF := e_some hF
                                          have hF := e_some hF
                                          have hq : some _ = some _ := hF
                                          cases hq
                                          exact en1
                                        · refine st1 ?_
                                          exact k_loopF (e_some hF) hx2 () [(1, _), (14, _)] ⟨sT, sS, by rfl, by rfl⟩
                                      · refine st1 ?_
                                        exact k_loopF (e_some hF) hx2 () [(1, _), (14, _)] ⟨sT, sS, by rfl, by rfl⟩
                                  · refine st1 ?_
                                    exact k_loopF (e_some hF) hx2 () [(1, _), (14, _)] ⟨sT, sS, by rfl, by rfl⟩
                              · refine st1 ?_
                                have hF := e_some hF
                                rcases e_bif hF with ⟨hb459, hF⟩ | ⟨hb459, hF⟩ <;> (first | rw [hb459] | (conv => arg 7; rw [hb459]))
                                · refine st1 ?_
                                  rcases e_bif hF with ⟨hb460, hF⟩ | ⟨hb460, hF⟩ <;> (first | rw [hb460] | (conv => arg 7; rw [hb460]))
                                  · refine st1 ?_
                                    rcases e_bif hF with ⟨hb461, hF⟩ | ⟨hb461, hF⟩ <;> (first | rw [hb461] | (conv => arg 7; rw [hb461]))
                                    · refine st1 ?_
                                      have hF := e_some hF
                                      have hF := e_some hF
                                      have hq : some _ = some _ := hF
                                      cases hq
                                      exact en1
                                    · refine st1 ?_
                                      rcases e_bif hF with ⟨hb462, hF⟩ | ⟨hb462, hF⟩ <;> (first | rw [hb462] | (conv => arg 7; rw [hb462]))
                                      · refine st1 ?_
                                        rcases e_bif hF with ⟨hb463, hF⟩ | ⟨hb463, hF⟩ <;> (first | rw [hb463] | (conv => arg 7; rw [hb463]))
                                        · refine st1 ?_
                                          have hF := e_some hF
                                          have hF := e_some hF
                                          have hq : some _ = some _ := hF
                                          cases hq
                                          exact en1
                                        · refine st1 ?_
                                          exact k_loopF (e_some hF) hx2 () [(1, _), (14, _)] ⟨sT, sS, by rfl, by rfl⟩
                                      · refine st1 ?_
                                        exact k_loopF (e_some hF) hx2 () [(1, _), (14, _)] ⟨sT, sS, by rfl, by rfl⟩
                                  · refine st1 ?_
                                    rcases e_bif hF with ⟨hb464, hF⟩ | ⟨hb464, hF⟩ <;> (first | rw [hb464] | (conv => arg 7; rw [hb464]))
                                    · refine st1 ?_
                                      rcases e_bif hF with ⟨hb465, hF⟩ | ⟨hb465, hF⟩ <;> (first | rw [hb465] | (conv => arg 7; rw [hb465]))
                                      · refine st1 ?_
                                        have hF := e_some hF
                                        have hF := e_some hF
                                        have hq : some _ = some _ := hF
                                        cases hq
                                        exact en1
                                      · refine st1 ?_
                                        exact k_loopF (e_some hF) hx2 () [(1, _), (14, _)] ⟨sT, sS, by rfl, by rfl⟩
                                    · refine st1 ?_
                                      exact k_loopF (e_some hF) hx2 () [(1, _), (14, _)] ⟨sT, sS, by rfl, by rfl⟩
                                · refine st1 ?_
                                  exact k_loopF (e_some hF) hx2 () [(1, _), (14, _)] ⟨sT, sS, by rfl, by rfl⟩
                          · refine st1 ?_
                            refine st_loopF (e_assoc hF) () [(1, _), (14, _)] ⟨sT, sS, by rfl, by rfl⟩ ?_
                            · as_aux_lemma =>
                              rintro n _ _ x hx3 hF
                              (conv => arg 7; whnf); (conv => arg 8; whnf); (conv => arg 9; whnf)
                              refine st1 ?_
                              rcases e_bif hF with ⟨hb469, hF⟩ | ⟨hb469, hF⟩ <;> (first | rw [hb469] | (conv => arg 7; rw [hb469]))
                              · refine st1 ?_
                                rcases e_bif hF with ⟨hb470, hF⟩ | ⟨hb470, hF⟩ <;> (first | rw [hb470] | (conv => arg 7; rw [hb470]))
                                · refine st1 ?_
                                  exact k_loopF (e_some hF) hx3 () [(1, _), (14, _)] ⟨sT, sS, by rfl, by rfl⟩
                                · refine st1 ?_
                                  have hF := e_some hF
                                  rcases e_bif hF with ⟨hb471, hF⟩ | ⟨hb471, hF⟩ <;> (first | rw [hb471] | (conv => arg 7; rw [hb471]))
                                  · refine st1 ?_
                                    rcases e_bif hF with ⟨hb472, hF⟩ | ⟨hb472, hF⟩ <;> (first | rw [hb472] | (conv => arg 7; rw [hb472]))
                                    · refine st1 ?_
                                      rcases e_bif hF with ⟨hb473, hF⟩ | ⟨hb473, hF⟩ <;> (first | rw [hb473] | (conv => arg 7; rw [hb473]))
                                      · refine st1 ?_
                                        have hF := e_some hF
                                        have hF := e_some hF
                                        have hq : some _ = some _ := hF
                                        cases hq
                                        exact en1
                                      · refine st1 ?_
                                        rcases e_bif hF with ⟨hb474, hF⟩ | ⟨hb474, hF⟩ <;> (first | rw [hb474] | (conv => arg 7; rw [hb474]))
                                        · refine st1 ?_
                                          rcases e_bif hF with ⟨hb475, hF⟩ | ⟨hb475, hF⟩ <;> (first | rw [hb475] | (conv => arg 7; rw [hb475]))
                                          · refine st1 ?_
                                            have hF := e_some hF
                                            have hF := e_some hF
                                            have hq : some _ = some _ := hF
                                            cases hq
                                            exact en1
                                          · refine st1 ?_
                                            exact k_loopF (e_some hF) hx2 () [(1, _), (14, _)] ⟨sT, sS, by rfl, by rfl⟩
                                        · refine st1 ?_
                                          exact k_loopF (e_some hF) hx2 () [(1, _), (14, _)] ⟨sT, sS, by rfl, by rfl⟩
                                    · refine st1 ?_
                                      rcases e_bif hF with ⟨hb476, hF⟩ | ⟨hb476, hF⟩ <;> (first | rw [hb476] | (conv => arg 7; rw [hb476]))
                                      · refine st1 ?_
                                        rcases e_bif hF with ⟨hb477, hF⟩ | ⟨hb477, hF⟩ <;> (first | rw [hb477] | (conv => arg 7; rw [hb477]))
                                        · refine st1 ?_
                                          have hF := e_some hF
                                          have hF := e_some hF
                                          have hq : some _ = some _ := hF
                                          cases hq
                                          exact en1
                                        · refine st1 ?_
                                          exact k_loopF (e_some hF) hx2 () [(1, _), (14, _)] ⟨sT, sS, by rfl, by rfl⟩
                                      · refine st1 ?_
                                        exact k_loopF (e_some hF) hx2 () [(1, _), (14, _)] ⟨sT, sS, by rfl, by rfl⟩
                                  · refine st1 ?_
                                    exact k_loopF (e_some hF) hx2 () [(1, _), (14, _)] ⟨sT, sS, by rfl, by rfl⟩
                              · refine st1 ?_
                                have hF := e_some hF
                                rcases e_bif hF with ⟨hb471, hF⟩ | ⟨hb471, hF⟩ <;> (first | rw [hb471] | (conv => arg 7; rw [hb471]))
                                · refine st1 ?_
                                  rcases e_bif hF with ⟨hb472, hF⟩ | ⟨hb472, hF⟩ <;> (first | rw [hb472] | (conv => arg 7; rw [hb472]))
                                  · refine st1 ?_
                                    rcases e_bif hF with ⟨hb473, hF⟩ | ⟨hb473, hF⟩ <;> (first | rw [hb473] | (conv => arg 7; rw [hb473]))
                                    · refine st1 ?_
                                      have hF := e_some hF
                                      have hF := e_some hF
                                      have hq : some _ = some _ := hF
                                      cases hq
                                      exact en1
                                    · refine st1 ?_
                                      rcases e_bif hF with ⟨hb474, hF⟩ | ⟨hb474, hF⟩ <;> (first | rw [hb474] | (conv => arg 7; rw [hb474]))
                                      · refine st1 ?_
                                        rcases e_bif hF with ⟨hb475, hF⟩ | ⟨hb475, hF⟩ <;> (first | rw [hb475] | (conv => arg 7; rw [hb475]))
                                        · refine st1 ?_
                                          have hF := e_some hF
                                          have hF := e_some hF
                                          have hq : some _ = some _ := hF
                                          cases hq
                                          exact en1
                                        · refine st1 ?_
                                          exact k_loopF (e_some hF) hx2 () [(1, _), (14, _)] ⟨sT, sS, by rfl, by rfl⟩
                                      · refine st1 ?_
                                        exact k_loopF (e_some hF) hx2 () [(1, _), (14, _)] ⟨sT, sS, by rfl, by rfl⟩
                                  · refine st1 ?_
                                    rcases e_bif hF with ⟨hb476, hF⟩ | ⟨hb476, hF⟩ <;> (first | rw [hb476] | (conv => arg 7; rw [hb476]))
                                    · refine st1 ?_
                                      rcases e_bif hF with ⟨hb477, hF⟩ | ⟨hb477, hF⟩ <;> (first | rw [hb477] | (conv => arg 7; rw [hb477]))
                                      · refine st1 ?_
                                        have hF := e_some hF
                                        have hF := e_some hF
                                        have hq : some _ = some _ := hF
                                        cases hq
                                        exact en1
                                      · refine st1 ?_
                                        exact k_loopF (e_some hF) hx2 () [(1, _), (14, _)] ⟨sT, sS, by rfl, by rfl⟩
                                    · refine st1 ?_
                                      exact k_loopF (e_some hF) hx2 () [(1, _), (14, _)] ⟨sT, sS, by rfl, by rfl⟩
                                · refine st1 ?_
                                  exact k_loopF (e_some hF) hx2 () [(1, _), (14, _)] ⟨sT, sS, by rfl, by rfl⟩
                        · refine st1 ?_
                          refine st_loopF (e_assoc hF) () [(1, _), (14, _)] ⟨sT, sS, by rfl, by rfl⟩ ?_
                          · as_aux_lemma =>
                            rintro n _ _ x hx3 hF
                            (conv => arg 7; whnf); (conv => arg 8; whnf); (conv => arg 9; whnf)
                            refine st1 ?_
                            rcases e_bif hF with ⟨hb481, hF⟩ | ⟨hb481, hF⟩ <;> (first | rw [hb481] | (conv => arg 7; rw [hb481]))
                            · refine st1 ?_
                              rcases e_bif hF with ⟨hb482, hF⟩ | ⟨hb482, hF⟩ <;> (first | rw [hb482] | (conv => arg 7; rw [hb482]))
                              · refine st1 ?_
                                exact k_loopF (e_some hF) hx3 () [(1, _), (14, _)] ⟨sT, sS, by rfl, by rfl⟩
                              · refine st1 ?_
                                have hF := e_some hF
                                rcases e_bif hF with ⟨hb483, hF⟩ | ⟨hb483, hF⟩ <;> (first | rw [hb483] | (conv => arg 7; rw [hb483]))
                                · refine st1 ?_
                                  rcases e_bif hF with ⟨hb484, hF⟩ | ⟨hb484, hF⟩ <;> (first | rw [hb484] | (conv => arg 7; rw [hb484]))
                                  · refine st1 ?_
                                    rcases e_bif hF with ⟨hb485, hF⟩ | ⟨hb485, hF⟩ <;> (first | rw [hb485] | (conv => arg 7; rw [hb485]))
                                    · refine st1 ?_
                                      have hF := e_some hF
                                      have hF := e_some hF
                                      have hq : some _ = some _ := hF
                                      cases hq
                                      exact en1
                                    · refine st1 ?_
                                      rcases e_bif hF with ⟨hb486, hF⟩ | ⟨hb486, hF⟩ <;> (first | rw [hb486] | (conv => arg 7; rw [hb486]))
                                      · refine st1 ?_
                                        rcases e_bif hF with ⟨hb487, hF⟩ | ⟨hb487, hF⟩ <;> (first | rw [hb487] | (conv => arg 7; rw [hb487]))
                                        · refine st1 ?_
                                          have hF := e_some hF
                                          have hF := e_some hF
                                          have hq : some _ = some _ := hF
                                          cases hq
                                          exact en1
                                        · refine st1 ?_
                                          exact k_loopF (e_some hF) hx2 () [(1, _), (14, _)] ⟨sT, sS, by rfl, by rfl⟩
                                      · refine st1 ?_
                                        exact k_loopF (e_some hF) hx2 () [(1, _), (14, _)] ⟨sT, sS, by rfl, by rfl⟩
                                  · refine st1 ?_
                                    rcases e_bif hF with ⟨hb488, hF⟩ | ⟨hb488, hF⟩ <;> (first | rw [hb488] | (conv => arg 7; rw [hb488]))
                                    · refine st1 ?_
                                      rcases e_bif hF with ⟨hb489, hF⟩ | ⟨hb489, hF⟩ <;> (first | rw [hb489] | (conv => arg 7; rw [hb489]))
                                      · refine st1 ?_
                                        have hF := e_some hF
                                        have hF := e_some hF
                                        have hq : some _ = some _ := hF
                                        cases hq
                                        exact en1
                                      · refine st1 ?_
                                        exact k_loopF (e_some hF) hx2 () [(1, _), (14, _)] ⟨sT, sS, by rfl, by rfl⟩
                                    · refine st1 ?_
                                      exact k_loopF (e_some hF) hx2 () [(1, _), (14, _)] ⟨sT, sS, by rfl, by rfl⟩
                                · refine st1 ?_
                                  exact k_loopF (e_some hF) hx2 () [(1, _), (14, _)] ⟨sT, sS, by rfl, by rfl⟩
                            · refine st1 ?_
                              have hF := e_some hF
                              rcases e_bif hF with ⟨hb483, hF⟩ | ⟨hb483, hF⟩ <;> (first | rw [hb483] | (conv => arg 7; rw [hb483]))
                              · refine st1 ?_
                                rcases e_bif hF with ⟨hb484, hF⟩ | ⟨hb484, hF⟩ <;> (first | rw [hb484] | (conv => arg 7; rw [hb484]))
                                · refine st1 ?_
                                  rcases e_bif hF with ⟨hb485, hF⟩ | ⟨hb485, hF⟩ <;> (first | rw [hb485] | (conv => arg 7; rw [hb485]))
                                  · refine st1 ?_
                                    have hF := e_some hF
                                    have hF := e_some hF
                                    have hq : some _ = some _ := hF
                                    cases hq
                                    exact en1
                                  · refine st1 ?_
                                    rcases e_bif hF with ⟨hb486, hF⟩ | ⟨hb486, hF⟩ <;> (first | rw [hb486] | (conv => arg 7; rw [hb486]))
                                    · refine st1 ?_
                                      rcases e_bif hF with ⟨hb487, hF⟩ | ⟨hb487, hF⟩ <;> (first | rw [hb487] | (conv => arg 7; rw [hb487]))
                                      · refine st1 ?_
                                        have hF := e_some hF
                                        have hF := e_some hF
                                        have hq : some _ = some _ := hF
                                        cases hq
                                        exact en1
                                      · refine st1 ?_
                                        exact k_loopF (e_some hF) hx2 () [(1, _), (14, _)] ⟨sT, sS, by rfl, by rfl⟩
                                    · refine st1 ?_
                                      exact k_loopF (e_some hF) hx2 () [(1, _), (14, _)] ⟨sT, sS, by rfl, by rfl⟩
                                · refine st1 ?_
                                  rcases e_bif hF with ⟨hb488, hF⟩ | ⟨hb488, hF⟩ <;> (first | rw [hb488] | (conv => arg 7; rw [hb488]))
                                  · refine st1 ?_
                                    rcases e_bif hF with ⟨hb489, hF⟩ | ⟨hb489, hF⟩ <;> (first | rw [hb489] | (conv => arg 7; rw [hb489]))
                                    · refine st1 ?_
                                      have hF := e_some hF
                                      have hF := e_some hF
                                      have hq : some _ = some _ := hF
                                      cases hq
                                      exact en1
                                    · refine st1 ?_
                                      exact k_loopF (e_some hF) hx2 () [(1, _), (14, _)] ⟨sT, sS, by rfl, by rfl⟩
                                  · refine st1 ?_
                                    exact k_loopF (e_some hF) hx2 () [(1, _), (14, _)] ⟨sT, sS, by rfl, by rfl⟩
                              · refine st1 ?_
                                exact k_loopF (e_some hF) hx2 () [(1, _), (14, _)] ⟨sT, sS, by rfl, by rfl⟩
                      · refine st1 ?_
                        rcases e_bif hF with ⟨hb490, hF⟩ | ⟨hb490, hF⟩ <;> (first | rw [hb490] | (conv => arg 7; rw [hb490]))
                        · refine st1 ?_
                          rcases e_bif hF with ⟨hb491, hF⟩ | ⟨hb491, hF⟩ <;> (first | rw [hb491] | (conv => arg 7; rw [hb491]))
                          · refine st1 ?_
                            obtain ⟨_, h, hF⟩ := e_bind hF
                            (first | refine go_req (nz_ne h) ?_ | refine goT_req (nz_ne h) ?_)
                            (conv => arg 1; whnf)
                            refine st1 ?_
                            obtain ⟨_, h, hF⟩ := e_bind hF
                            (first | refine o_ia (enc := (eI .u8)) (s := 1) h (fun _ => rfl) (by decide) ?_ | refine o_iaT (enc := (eI .u8)) (s := 1) h (fun _ => rfl) (by decide) ?_)
                            intro _
                            refine st1 ?_
                            obtain ⟨_, hi136, hF⟩ := e_bind hF
                            (first | refine go_req (oidx_ok hi136 (by decide)) ?_ | refine goT_req (oidx_ok hi136 (by decide)) ?_)
                            (conv => arg 1; whnf)
                            refine st1 ?_
                            (first | refine o_ldA (enc := eTHullPlate) (s := 4) hi136 (fun _ => rfl) (by decide) ?_ | refine o_ldB (enc := eTHullPlate) (s := 4) hi136 (fun _ => rfl) (by decide) ?_ | refine o_ldC (enc := eTHullPlate) (s := 4) hi136 (fun _ => rfl) (by decide) ?_ | refine o_ldD (enc := eTHullPlate) (s := 4) hi136 (fun _ => rfl) (by decide) ?_ | refine o_ldAT (enc := eTHullPlate) (s := 4) hi136 (fun _ => rfl) (by decide) ?_ | refine o_ldBT (enc := eTHullPlate) (s := 4) hi136 (fun _ => rfl) (by decide) ?_ | refine o_ldCT (enc := eTHullPlate) (s := 4) hi136 (fun _ => rfl) (by decide) ?_ | refine o_ldDT (enc := eTHullPlate) (s := 4) hi136 (fun _ => rfl) (by decide) ?_)
                            (conv => arg 1; whnf)
                            refine st1 ?_
                            obtain ⟨_, h, hF⟩ := e_bind hF
                            (first | refine go_req (nz_ne h) ?_ | refine goT_req (nz_ne h) ?_)
                            (conv => arg 1; whnf)
                            refine st1 ?_
                            obtain ⟨_, h, hF⟩ := e_bind hF
                            (first | refine go_req (nz_ne h) ?_ | refine goT_req (nz_ne h) ?_)
                            (conv => arg 1; whnf)
                            refine st1 ?_
                            obtain ⟨_, h, hF⟩ := e_bind hF
                            (first | refine o_ia (enc := (eI .u8)) (s := 1) h (fun _ => rfl) (by decide) ?_ | refine o_iaT (enc := (eI .u8)) (s := 1) h (fun _ => rfl) (by decide) ?_)
                            intro _
                            refine st1 ?_
                            obtain ⟨_, hi139, hF⟩ := e_bind hF
                            (first | refine go_req (oidx_ok hi139 (by decide)) ?_ | refine goT_req (oidx_ok hi139 (by decide)) ?_)
                            (conv => arg 1; whnf)
                            refine st1 ?_
                            (first | refine o_ldA (enc := eTHullPlate) (s := 4) hi139 (fun _ => rfl) (by decide) ?_ | refine o_ldB (enc := eTHullPlate) (s := 4) hi139 (fun _ => rfl) (by decide) ?_ | refine o_ldC (enc := eTHullPlate) (s := 4) hi139 (fun _ => rfl) (by decide) ?_ | refine o_ldD (enc := eTHullPlate) (s := 4) hi139 (fun _ => rfl) (by decide) ?_ | refine o_ldAT (enc := eTHullPlate) (s := 4) hi139 (fun _ => rfl) (by decide) ?_ | refine o_ldBT (enc := eTHullPlate) (s := 4) hi139 (fun _ => rfl) (by decide) ?_ | refine o_ldCT (enc := eTHullPlate) (s := 4) hi139 (fun _ => rfl) (by decide) ?_ | refine o_ldDT (enc := eTHullPlate) (s := 4) hi139 (fun _ => rfl) (by decide) ?_)
                            (conv => arg 1; whnf)
                            refine st1 ?_
                            obtain ⟨_, h, hF⟩ := e_bind hF
                            (first | refine go_req (nz_ne h) ?_ | refine goT_req (nz_ne h) ?_)
                            (conv => arg 1; whnf)
                            refine st1 ?_
                            refine st_loopF (e_assoc hF) () [(1, _), (14, _)] ⟨sT, sS, by rfl, by rfl⟩ ?_
                            · as_aux_lemma =>
                              rintro n _ _ x hx3 hF
                              (conv => arg 7; whnf); (conv => arg 8; whnf); (conv => arg 9; whnf)
                              refine st1 ?_
                              rcases e_bif hF with ⟨hb495, hF⟩ | ⟨hb495, hF⟩ <;> (first | rw [hb495] | (conv => arg 7; rw [hb495]))
                              · refine st1 ?_
                                rcases e_bif hF with ⟨hb496, hF⟩ | ⟨hb496, hF⟩ <;> (first | rw [hb496] | (conv => arg 7; rw [hb496]))
                                · refine st1 ?_
                                  exact k_loopF (e_some hF) hx3 () [(1, _), (14, _)] ⟨sT, sS, by rfl, by rfl⟩
                                · refine st1 ?_
                                  have hF := e_some hF
                                  rcases e_bif hF with ⟨hb497, hF⟩ | ⟨hb497, hF⟩ <;> (first | rw [hb497] | (conv => arg 7; rw [hb497]))
                                  · refine st1 ?_
                                    rcases e_bif hF with ⟨hb498, hF⟩ | ⟨hb498, hF⟩ <;> (first | rw [hb498] | (conv => arg 7; rw [hb498]))
                                    · refine st1 ?_
                                      rcases e_bif hF with ⟨hb499, hF⟩ | ⟨hb499, hF⟩ <;> (first | rw [hb499] | (conv => arg 7; rw [hb499]))
                                      · refine st1 ?_
                                        have hF := e_some hF
                                        have hF := e_some hF
                                        have hq : some _ = some _ := hF
                                        cases hq
                                        exact en1
                                      · refine st1 ?_
                                        rcases e_bif hF with ⟨hb500, hF⟩ | ⟨hb500, hF⟩ <;> (first | rw [hb500] | (conv => arg 7; rw [hb500]))
                                        · refine st1 ?_
                                          rcases e_bif hF with ⟨hb501, hF⟩ | ⟨hb501, hF⟩ <;> (first | rw [hb501] | (conv => arg 7; rw [hb501]))
                                          · refine st1 ?_
                                            have hF := e_some hF
                                            have hF := e_some hF
                                            have hq : some _ = some _ := hF
                                            cases hq
                                            exact en1
                                          · refine st1 ?_
                                            exact k_loopF (e_some hF) hx2 () [(1, _), (14, _)] ⟨sT, sS, by rfl, by rfl⟩
                                        · refine st1 ?_
                                          exact k_loopF (e_some hF) hx2 () [(1, _), (14, _)] ⟨sT, sS, by rfl, by rfl⟩
                                    · refine st1 ?_
                                      rcases e_bif hF with ⟨hb502, hF⟩ | ⟨hb502, hF⟩ <;> (first | rw [hb502] | (conv => arg 7; rw [hb502]))
                                      · refine st1 ?_
                                        rcases e_bif hF with ⟨hb503, hF⟩ | ⟨hb503, hF⟩ <;> (first | rw [hb503] | (conv => arg 7; rw [hb503]))
                                        · refine st1 ?_
                                          have hF := e_some hF
                                          have hF := e_some hF
                                          have hq : some _ = some _ := hF
                                          cases hq
                                          exact en1
                                        · refine st1 ?_
                                          exact k_loopF (e_some hF) hx2 () [(1, _), (14, _)] ⟨sT, sS, by rfl, by rfl⟩
                                      · refine st1 ?_
                                        exact k_loopF (e_some hF) hx2 () [(1, _), (14, _)] ⟨sT, sS, by rfl, by rfl⟩
                                  · refine st1 ?_
                                    exact k_loopF (e_some hF) hx2 () [(1, _), (14, _)] ⟨sT, sS, by rfl, by rfl⟩
                              · refine st1 ?_
                                have hF := e_some hF
                                rcases e_bif hF with ⟨hb497, hF⟩ | ⟨hb497, hF⟩ <;> (first | rw [hb497] | (conv => arg 7; rw [hb497]))
                                · refine st1 ?_
                                  rcases e_bif hF with ⟨hb498, hF⟩ | ⟨hb498, hF⟩ <;> (first | rw [hb498] | (conv => arg 7; rw [hb498]))
                                  · refine st1 ?_
                                    rcases e_bif hF with ⟨hb499, hF⟩ | ⟨hb499, hF⟩ <;> (first | rw [hb499] | (conv => arg 7; rw [hb499]))
                                    · refine st1 ?_
                                      have hF := e_some hF
                                      have hF := e_some hF
                                      have hq : some _ = some _ := hF
                                      cases hq
                                      exact en1
                                    · refine st1 ?_
                                      rcases e_bif hF with ⟨hb500, hF⟩ | ⟨hb500, hF⟩ <;> (first | rw [hb500] | (conv => arg 7; rw [hb500]))
                                      · refine st1 ?_
                                        rcases e_bif hF with ⟨hb501, hF⟩ | ⟨hb501, hF⟩ <;> (first | rw [hb501] | (conv => arg 7; rw [hb501]))
                                        · refine st1 ?_
                                          have hF := e_some hF
                                          have hF := e_some hF
                                          have hq : some _ = some _ := hF
                                          cases hq
                                          exact en1
                                        · refine st1 ?_
                                          exact k_loopF (e_some hF) hx2 () [(1, _), (14, _)] ⟨sT, sS, by rfl, by rfl⟩
                                      · refine st1 ?_
                                        exact k_loopF (e_some hF) hx2 () [(1, _), (14, _)] ⟨sT, sS, by rfl, by rfl⟩
                                  · refine st1 ?_
                                    rcases e_bif hF with ⟨hb502, hF⟩ | ⟨hb502, hF⟩ <;> (first | rw [hb502] | (conv => arg 7; rw [hb502]))
                                    · refine st1 ?_
                                      rcases e_bif hF with ⟨hb503, hF⟩ | ⟨hb503, hF⟩ <;> (first | rw [hb503] | (conv => arg 7; rw [hb503]))
                                      · refine st1 ?_
                                        have hF := e_some hF
                                        have hF := e_some hF
                                        have hq : some _ = some _ := hF
                                        cases hq
                                        exact en1
                                      · refine st1 ?_
                                        exact k_loopF (e_some hF) hx2 () [(1, _), (14, _)] ⟨sT, sS, by rfl, by rfl⟩
                                    · refine st1 ?_
                                      exact k_loopF (e_some hF) hx2 () [(1, _), (14, _)] ⟨sT, sS, by rfl, by rfl⟩
                                · refine st1 ?_
                                  exact k_loopF (e_some hF) hx2 () [(1, _), (14, _)] ⟨sT, sS, by rfl, by rfl⟩
                          · refine st1 ?_
                            refine st_loopF (e_assoc hF) () [(1, _), (14, _)] ⟨sT, sS, by rfl, by rfl⟩ ?_
                            · as_aux_lemma =>
                              rintro n _ _ x hx3 hF
                              (conv => arg 7; whnf); (conv => arg 8; whnf); (conv => arg 9; whnf)
                              refine st1 ?_
                              rcases e_bif hF with ⟨hb507, hF⟩ | ⟨hb507, hF⟩ <;> (first | rw [hb507] | (conv => arg 7; rw [hb507]))
                              · refine st1 ?_
                                rcases e_bif hF with ⟨hb508, hF⟩ | ⟨hb508, hF⟩ <;> (first | rw [hb508] | (conv => arg 7; rw [hb508]))
                                · refine st1 ?_
                                  exact k_loopF (e_some hF) hx3 () [(1, _), (14, _)] ⟨sT, sS, by rfl, by rfl⟩
                                · refine st1 ?_
                                  have hF := e_some hF
                                  rcases e_bif hF with ⟨hb509, hF⟩ | ⟨hb509, hF⟩ <;> (first | rw [hb509] | (conv => arg 7; rw [hb509]))
                                  · refine st1 ?_
                                    rcases e_bif hF with ⟨hb510, hF⟩ | ⟨hb510, hF⟩ <;> (first | rw [hb510] | (conv => arg 7; rw [hb510]))
                                    · refine st1 ?_
                                      rcases e_bif hF with ⟨hb511, hF⟩ | ⟨hb511, hF⟩ <;> (first | rw [hb511] | (conv => arg 7; rw [hb511]))
                                      · refine st1 ?_
                                        have hF := e_some hF
                                        have hF := e_some hF
                                        have hq : some _ = some _ := hF
                                        cases hq
                                        exact en1
                                      · refine st1 ?_
                                        rcases e_bif hF with ⟨hb512, hF⟩ | ⟨hb512, hF⟩ <;> (first | rw [hb512] | (conv => arg 7; rw [hb512]))
                                        · refine st1 ?_
                                          rcases e_bif hF with ⟨hb513, hF⟩ | ⟨hb513, hF⟩ <;> (first | rw [hb513] | (conv => arg 7; rw [hb513]))
                                          · refine st1 ?_
                                            have hF := e_some hF
                                            have hF := e_some hF
                                            have hq : some _ = some _ := hF
                                            cases hq
                                            exact en1
                                          · refine st1 ?_
                                            exact k_loopF (e_some hF) hx2 () [(1, _), (14, _)] ⟨sT, sS, by rfl, by rfl⟩
                                        · refine st1 ?_
                                          exact k_loopF (e_some hF) hx2 () [(1, _), (14, _)] ⟨sT, sS, by rfl, by rfl⟩
                                    · refine st1 ?_
                                      rcases e_bif hF with ⟨hb514, hF⟩ | ⟨hb514, hF⟩ <;> (first | rw [hb514] | (conv => arg 7; rw [hb514]))
                                      · refine st1 ?_
                                        rcases e_bif hF with ⟨hb515, hF⟩ | ⟨hb515, hF⟩ <;> (first | rw [hb515] | (conv => arg 7; rw [hb515]))
                                        · refine st1 ?_
                                          have hF := e_some hF
                                          have hF := e_some hF
                                          have hq : some _ = some _ := hF
                                          cases hq
                                          exact en1
                                        · refine st1 ?_
                                          exact k_loopF (e_some hF) hx2 () [(1, _), (14, _)] ⟨sT, sS, by rfl, by rfl⟩
                                      · refine st1 ?_
                                        exact k_loopF (e_some hF) hx2 () [(1, _), (14, _)] ⟨sT, sS, by rfl, by rfl⟩
                                  · refine st1 ?_
                                    exact k_loopF (e_some hF) hx2 () [(1, _), (14, _)] ⟨sT, sS, by rfl, by rfl⟩
                              · refine st1 ?_
                                have hF := e_some hF
                                rcases e_bif hF with ⟨hb509, hF⟩ | ⟨hb509, hF⟩ <;> (first | rw [hb509] | (conv => arg 7; rw [hb509]))
                                · refine st1 ?_
                                  rcases e_bif hF with ⟨hb510, hF⟩ | ⟨hb510, hF⟩ <;> (first | rw [hb510] | (conv => arg 7; rw [hb510]))
                                  · refine st1 ?_
                                    rcases e_bif hF with ⟨hb511, hF⟩ | ⟨hb511, hF⟩ <;> (first | rw [hb511] | (conv => arg 7; rw [hb511]))
                                    · refine st1 ?_
                                      have hF := e_some hF
                                      have hF := e_some hF
                                      have hq : some _ = some _ := hF
                                      cases hq
                                      exact en1
                                    · refine st1 ?_
                                      rcases e_bif hF with ⟨hb512, hF⟩ | ⟨hb512, hF⟩ <;> (first | rw [hb512] | (conv => arg 7; rw [hb512]))
                                      · refine st1 ?_
                                        rcases e_bif hF with ⟨hb513, hF⟩ | ⟨hb513, hF⟩ <;> (first | rw [hb513] | (conv => arg 7; rw [hb513]))
                                        · refine st1 ?_
                                          have hF := e_some hF
                                          have hF := e_some hF
                                          have hq : some _ = some _ := hF
                                          cases hq
                                          exact en1
                                        · refine st1 ?_
                                          exact k_loopF (e_some hF) hx2 () [(1, _), (14, _)] ⟨sT, sS, by rfl, by rfl⟩
                                      · refine st1 ?_
                                        exact k_loopF (e_some hF) hx2 () [(1, _), (14, _)] ⟨sT, sS, by rfl, by rfl⟩
                                  · refine st1 ?_
                                    rcases e_bif hF with ⟨hb514, hF⟩ | ⟨hb514, hF⟩ <;> (first | rw [hb514] | (conv => arg 7; rw [hb514]))
                                    · refine st1 ?_
                                      rcases e_bif hF with ⟨hb515, hF⟩ | ⟨hb515, hF⟩ <;> (first | rw [hb515] | (conv => arg 7; rw [hb515]))
                                      · refine st1 ?_
                                        have hF := e_some hF
                                        have hF := e_some hF
                                        have hq : some _ = some _ := hF
                                        cases hq
                                        exact en1
                                      · refine st1 ?_
                                        exact k_loopF (e_some hF) hx2 () [(1, _), (14, _)] ⟨sT, sS, by rfl, by rfl⟩
                                    · refine st1 ?_
                                      exact k_loopF (e_some hF) hx2 () [(1, _), (14, _)] ⟨sT, sS, by rfl, by rfl⟩
                                · refine st1 ?_
                                  exact k_loopF (e_some hF) hx2 () [(1, _), (14, _)] ⟨sT, sS, by rfl, by rfl⟩
                        · refine st1 ?_
                          refine st_loopF (e_assoc hF) () [(1, _), (14, _)] ⟨sT, sS, by rfl, by rfl⟩ ?_
                          · as_aux_lemma =>
                            rintro n _ _ x hx3 hF
                            (conv => arg 7; whnf); (conv => arg 8; whnf); (conv => arg 9; whnf)
                            refine st1 ?_
                            rcases e_bif hF with ⟨hb519, hF⟩ | ⟨hb519, hF⟩ <;> (first | rw [hb519] | (conv => arg 7; rw [hb519]))
                            · refine st1 ?_
                              rcases e_bif hF with ⟨hb520, hF⟩ | ⟨hb520, hF⟩ <;> (first | rw [hb520] | (conv => arg 7; rw [hb520]))
                              · refine st1 ?_
                                exact k_loopF (e_some hF) hx3 () [(1, _), (14, _)] ⟨sT, sS, by rfl, by rfl⟩
                              · refine st1 ?_
                                have hF := e_some hF
                                rcases e_bif hF with ⟨hb521, hF⟩ | ⟨hb521, hF⟩ <;> (first | rw [hb521] | (conv => arg 7; rw [hb521]))
                                · refine st1 ?_
                                  rcases e_bif hF with ⟨hb522, hF⟩ | ⟨hb522, hF⟩ <;> (first | rw [hb522] | (conv => arg 7; rw [hb522]))
                                  · refine st1 ?_
                                    rcases e_bif hF with ⟨hb523, hF⟩ | ⟨hb523, hF⟩ <;> (first | rw [hb523] | (conv => arg 7; rw [hb523]))
                                    · refine st1 ?_
                                      have hF := e_some hF
                                      have hF := e_some hF
                                      have hq : some _ = some _ := hF
                                      cases hq
                                      exact en1
                                    · refine st1 ?_
                                      rcases e_bif hF with ⟨hb524, hF⟩ | ⟨hb524, hF⟩ <;> (first | rw [hb524] | (conv => arg 7; rw [hb524]))
                                      · refine st1 ?_
                                        rcases e_bif hF with ⟨hb525, hF⟩ | ⟨hb525, hF⟩ <;> (first | rw [hb525] | (conv => arg 7; rw [hb525]))
                                        · refine st1 ?_
                                          have hF := e_some hF
                                          have hF := e_some hF
                                          have hq : some _ = some _ := hF
                                          cases hq
                                          exact en1
                                        · refine st1 ?_
                                          exact k_loopF (e_some hF) hx2 () [(1, _), (14, _)] ⟨sT, sS, by rfl, by rfl⟩
                                      · refine st1 ?_
                                        exact k_loopF (e_some hF) hx2 () [(1, _), (14, _)] ⟨sT, sS, by rfl, by rfl⟩
                                  · refine st1 ?_
                                    rcases e_bif hF with ⟨hb526, hF⟩ | ⟨hb526, hF⟩ <;> (first | rw [hb526] | (conv => arg 7; rw [hb526]))
                                    · refine st1 ?_
                                      rcases e_bif hF with ⟨hb527, hF⟩ | ⟨hb527, hF⟩ <;> (first | rw [hb527] | (conv => arg 7; rw [hb527]))
                                      · refine st1 ?_
                                        have hF := e_some hF
                                        have hF := e_some hF
                                        have hq : some _ = some _ := hF
                                        cases hq
                                        exact en1
                                      · refine st1 ?_
                                        exact k_loopF (e_some hF) hx2 () [(1, _), (14, _)] ⟨sT, sS, by rfl, by rfl⟩
                                    · refine st1 ?_
                                      exact k_loopF (e_some hF) hx2 () [(1, _), (14, _)] ⟨sT, sS, by rfl, by rfl⟩
                                · refine st1 ?_
                                  exact k_loopF (e_some hF) hx2 () [(1, _), (14, _)] ⟨sT, sS, by rfl, by rfl⟩
                            · refine st1 ?_
                              have hF := e_some hF
                              rcases e_bif hF with ⟨hb521, hF⟩ | ⟨hb521, hF⟩ <;> (first | rw [hb521] | (conv => arg 7; rw [hb521]))
                              · refine st1 ?_
                                rcases e_bif hF with ⟨hb522, hF⟩ | ⟨hb522, hF⟩ <;> (first | rw [hb522] | (conv => arg 7; rw [hb522]))
                                · refine st1 ?_
                                  rcases e_bif hF with ⟨hb523, hF⟩ | ⟨hb523, hF⟩ <;> (first | rw [hb523] | (conv => arg 7; rw [hb523]))
                                  · refine st1 ?_
                                    have hF := e_some hF
                                    have hF := e_some hF
                                    have hq : some _ = some _ := hF
                                    cases hq
                                    exact en1
                                  · refine st1 ?_
                                    rcases e_bif hF with ⟨hb524, hF⟩ | ⟨hb524, hF⟩ <;> (first | rw [hb524] | (conv => arg 7; rw [hb524]))
                                    · refine st1 ?_
                                      rcases e_bif hF with ⟨hb525, hF⟩ | ⟨hb525, hF⟩ <;> (first | rw [hb525] | (conv => arg 7; rw [hb525]))
                                      · refine st1 ?_
                                        have hF := e_some hF
                                        have hF := e_some hF
                                        have hq : some _ = some _ := hF
                                        cases hq
                                        exact en1
                                      · refine st1 ?_
                                        exact k_loopF (e_some hF) hx2 () [(1, _), (14, _)] ⟨sT, sS, by rfl, by rfl⟩
                                    · refine st1 ?_
                                      exact k_loopF (e_some hF) hx2 () [(1, _), (14, _)] ⟨sT, sS, by rfl, by rfl⟩
                                · refine st1 ?_
                                  rcases e_bif hF with ⟨hb526, hF⟩ | ⟨hb526, hF⟩ <;> (first | rw [hb526] | (conv => arg 7; rw [hb526]))
                                  · refine st1 ?_
                                    rcases e_bif hF with ⟨hb527, hF⟩ | ⟨hb527, hF⟩ <;> (first | rw [hb527] | (conv => arg 7; rw [hb527]))
                                    · refine st1 ?_
                                      have hF := e_some hF
                                      have hF := e_some hF
                                      have hq : some _ = some _ := hF
                                      cases hq
                                      exact en1
                                    · refine st1 ?_
                                      exact k_loopF (e_some hF) hx2 () [(1, _), (14, _)] ⟨sT, sS, by rfl, by rfl⟩
                                  · refine st1 ?_
                                    exact k_loopF (e_some hF) hx2 () [(1, _), (14, _)] ⟨sT, sS, by rfl, by rfl⟩
                              · refine st1 ?_
                                exact k_loopF (e_some hF) hx2 () [(1, _), (14, _)] ⟨sT, sS, by rfl, by rfl⟩
                    · refine st1 ?_
                      have hF := e_some hF
                      rcases e_bif hF with ⟨hb528, hF⟩ | ⟨hb528, hF⟩ <;> (first | rw [hb528] | (conv => arg 7; rw [hb528]))
                      · refine st1 ?_
                        have hF := e_some hF
                        have hq : some _ = some _ := hF
                        cases hq
                        exact en1
                      · refine st1 ?_
                        rcases e_bif hF with ⟨hb529, hF⟩ | ⟨hb529, hF⟩ <;> (first | rw [hb529] | (conv => arg 7; rw [hb529]))
                        · refine st1 ?_
                          have hF := e_some hF
                          have hq : some _ = some _ := hF
                          cases hq
                          exact en1
                        · refine st1 ?_
                          rcases e_bif hF with ⟨hb530, hF⟩ | ⟨hb530, hF⟩ <;> (first | rw [hb530] | (conv => arg 7; rw [hb530]))
                          · refine st1 ?_
                            rcases e_bif hF with ⟨hb531, hF⟩ | ⟨hb531, hF⟩ <;> (first | rw [hb531] | (conv => arg 7; rw [hb531]))
                            · refine st1 ?_
                              have hF := e_some hF
                              have hq : some _ = some _ := hF
                              cases hq
                              exact en1
                            · refine st1 ?_
                              rcases e_bif hF with ⟨hb532, hF⟩ | ⟨hb532, hF⟩ <;> (first | rw [hb532] | (conv => arg 7; rw [hb532]))
                              · refine st1 ?_
                                rcases e_bif hF with ⟨hb533, hF⟩ | ⟨hb533, hF⟩ <;> (first | rw [hb533] | (conv => arg 7; rw [hb533]))
                                · refine st1 ?_
                                  have hF := e_some hF
                                  have hq : some _ = some _ := hF
                                  cases hq
                                  exact en1
                                · refine st1 ?_
                                  exact k_loopF (e_some hF) hx1 () [(1, _), (14, _)] ⟨sT, sS, by rfl, by rfl⟩
                              · refine st1 ?_
                                exact k_loopF (e_some hF) hx1 () [(1, _), (14, _)] ⟨sT, sS, by rfl, by rfl⟩
                          · refine st1 ?_
                            rcases e_bif hF with ⟨hb534, hF⟩ | ⟨hb534, hF⟩ <;> (first | rw [hb534] | (conv => arg 7; rw [hb534]))
                            · refine st1 ?_
                              rcases e_bif hF with ⟨hb535, hF⟩ | ⟨hb535, hF⟩ <;> (first | rw [hb535] | (conv => arg 7; rw [hb535]))
                              · refine st1 ?_
                                have hF := e_some hF
                                have hq : some _ = some _ := hF
                                cases hq
                                exact en1
                              · refine st1 ?_
                                exact k_loopF (e_some hF) hx1 () [(1, _), (14, _)] ⟨sT, sS, by rfl, by rfl⟩
                            · refine st1 ?_
                              exact k_loopF (e_some hF) hx1 () [(1, _), (14, _)] ⟨sT, sS, by rfl, by rfl⟩
                · refine st1 ?_
                  have hF := e_some hF
                  obtain ⟨_, h, hF⟩ := e_bind hF
                  (first | refine o_slc (enc := eTHullPlate) (s := 4) h (fun _ => rfl) ?_ | refine o_slcT (enc := eTHullPlate) (s := 4) h (fun _ => rfl) ?_)
                  refine st1 ?_
                  obtain ⟨_, h, hF⟩ := e_bind hF
                  (first | refine o_app (enc := eTHullPlate) (s := 4) h (fun _ => rfl) ?_ | refine o_appT (enc := eTHullPlate) (s := 4) h (fun _ => rfl) ?_)
                  refine st1 ?_
                  obtain ⟨_, h, hF⟩ := e_bind hF
                  (first | refine g_call h lv1 ?_ | refine g_callT h lv1 ?_)
                  (conv => arg 1; whnf)
                  refine st1 ?_
                  rcases e_bif hF with ⟨hb536, hF⟩ | ⟨hb536, hF⟩ <;> (first | rw [hb536] | (conv => arg 7; rw [hb536]))
                  · refine st1 ?_
                    rcases e_bif hF with ⟨hb537, hF⟩ | ⟨hb537, hF⟩ <;> (first | rw [hb537] | (conv => arg 7; rw [hb537]))
                    · refine st1 ?_
                      obtain ⟨_, h, hF⟩ := e_bind hF
                      (first | refine g_call h lv1 ?_ | refine g_callT h lv1 ?_)
                      (conv => arg 1; whnf)
                      refine st1 ?_
                      have hq : some _ = some _ := hF
                      cases hq
                      exact en1
                    · refine st1 ?_
                      rcases e_bif hF with ⟨hb538, hF⟩ | ⟨hb538, hF⟩ <;> (first | rw [hb538] | (conv => arg 7; rw [hb538]))
                      · refine st1 ?_
                        rcases e_bif hF with ⟨hb539, hF⟩ | ⟨hb539, hF⟩ <;> (first | rw [hb539] | (conv => arg 7; rw [hb539]))
                        · refine st1 ?_
                          rcases e_bif hF with ⟨hb540, hF⟩ | ⟨hb540, hF⟩ <;> (first | rw [hb540] | (conv => arg 7; rw [hb540]))
                          · refine st1 ?_
                            obtain ⟨_, h, hF⟩ := e_bind hF
                            (first | refine g_call h lv1 ?_ | refine g_callT h lv1 ?_)
                            (conv => arg 1; whnf)
                            refine st1 ?_
                            have hq : some _ = some _ := hF
                            cases hq
                            exact en1
                          · refine st1 ?_
                            have hq : some _ = some _ := hF
                            cases hq
                            exact en1
                        · refine st1 ?_
                          have hq : some _ = some _ := hF
                          cases hq
                          exact en1
                      · refine st1 ?_
                        have hq : some _ = some _ := hF
                        cases hq
                        exact en1
                  · refine st1 ?_
                    rcases e_bif hF with ⟨hb541, hF⟩ | ⟨hb541, hF⟩ <;> (first | rw [hb541] | (conv => arg 7; rw [hb541]))
                    · refine st1 ?_
                      rcases e_bif hF with ⟨hb542, hF⟩ | ⟨hb542, hF⟩ <;> (first | rw [hb542] | (conv => arg 7; rw [hb542]))
                      · refine st1 ?_
                        rcases e_bif hF with ⟨hb543, hF⟩ | ⟨hb543, hF⟩ <;> (first | rw [hb543] | (conv => arg 7; rw [hb543]))
                        · refine st1 ?_
                          obtain ⟨_, h, hF⟩ := e_bind hF
                          (first | refine g_call h lv1 ?_ | refine g_callT h lv1 ?_)
                          (conv => arg 1; whnf)
                          refine st1 ?_
                          have hq : some _ = some _ := hF
                          cases hq
                          exact en1
                        · refine st1 ?_
                          have hq : some _ = some _ := hF
                          cases hq
                          exact en1
                      · refine st1 ?_
                        have hq : some _ = some _ := hF
                        cases hq
                        exact en1
                    · refine st1 ?_
                      have hq : some _ = some _ := hF
                      cases hq
                      exact en1
end Go.Ev
