/- A part of the proof of TopDeepEnough. -/
import Derived.Test.YtignohgoodffbafW7
/- The functions do what is said. -/
set_option linter.unusedVariables false
set_option linter.unusedSimpArgs false
namespace Go.Ev
open Go.Proofs
set_option maxHeartbeats 8000000
set_option maxRecDepth 100000
@[reducible] noncomputable def c_thalwegtop_TopDeepEnough : Con := conF F_thalwegtop_TopDeepEnough (fun x => match x with | (a0, a1, a2) => [(V.agg (eTRiver a0)), (V.sl (recs (eS eTBounds) (a1)) (a1).length), (V.agg (eTthalwegtop_HaulTrip a2))]) (fun r => (V.v (.bool (r))))
theorem h_thalwegtop_TopDeepEnough : Has Try.prog 3 c_thalwegtop_TopDeepEnough := by
  refine hasF (ctx_cons h_river_Depth (ctx_cons h_thalwegtop_haulPart (ctx_cons h_thalwegtop_haulPick (ctx_cons h_thalwegtop_haulSides (ctx_cons h_thalwegtop_haulRiver (ctx_cons h_river_Shallowest (ctx_cons h_tow_Arrive (ctx_cons h_thalwegtop_knownRiver (ctx_cons h_thalwegtop_haulVoyage (ctx_cons h_tow_Check (ctx_cons h_thalwegtop_haulGood ctx_nil))))))))))) mix Try.func3 rfl (by kernel_rfl) ?_
  rintro ⟨a0, a1, a2⟩ r hF
  refine ⟨of_decide_eq_true rfl, ?_⟩
  refine st1 ?_
  obtain ⟨_, h, hF⟩ := e_bind hF
  (first | refine g_call h lv1 ?_ | refine g_callT h lv1 ?_)
  (conv => arg 1; whnf)
  refine st1 ?_
  rcases e_bif hF with ⟨hb1, hF⟩ | ⟨hb1, hF⟩ <;> (first | rw [hb1] | (conv => arg 7; rw [hb1]) | (conv => arg 9; rw [hb1]))
  · refine st1 ?_
    obtain ⟨_, h, hF⟩ := e_bind hF
    (first | refine g_call h lv1 ?_ | refine g_callT h lv1 ?_)
    (conv => arg 1; whnf)
    refine st1 ?_
    have hq : some _ = some _ := hF
    cases hq
    exact en1
  · refine st1 ?_
    rcases e_bif hF with ⟨hb2, hF⟩ | ⟨hb2, hF⟩ <;> (first | rw [hb2] | (conv => arg 7; rw [hb2]) | (conv => arg 9; rw [hb2]))
    · refine st1 ?_
      obtain ⟨_, h, hF⟩ := e_bind hF
      (first | refine g_call h lv1 ?_ | refine g_callT h lv1 ?_)
      (conv => arg 1; whnf)
      refine st1 ?_
      have hq : some _ = some _ := hF
      cases hq
      exact en1
    · refine st1 ?_
      rcases e_bif hF with ⟨hb3, hF⟩ | ⟨hb3, hF⟩ <;> (first | rw [hb3] | (conv => arg 7; rw [hb3]) | (conv => arg 9; rw [hb3]))
      · refine st1 ?_
        obtain ⟨_, h, hF⟩ := e_bind hF
        (first | refine g_call h lv1 ?_ | refine g_callT h lv1 ?_)
        (conv => arg 1; whnf)
        refine st1 ?_
        have hq : some _ = some _ := hF
        cases hq
        exact en1
      · refine st1 ?_
        rcases e_bif hF with ⟨hb4, hF⟩ | ⟨hb4, hF⟩ <;> (first | rw [hb4] | (conv => arg 7; rw [hb4]) | (conv => arg 9; rw [hb4]))
        · refine st1 ?_
          obtain ⟨_, h, hF⟩ := e_bind hF
          (first | refine g_call h lv1 ?_ | refine g_callT h lv1 ?_)
          (conv => arg 1; whnf)
          refine st1 ?_
          have hq : some _ = some _ := hF
          cases hq
          exact en1
        · refine st1 ?_
          obtain ⟨_, h, hF⟩ := e_bind hF
          (first | refine g_callA h lv1 ?_ | refine g_callAT h lv1 ?_)
          (conv => arg 1; whnf)
          refine st1 ?_
          obtain ⟨_, h, hF⟩ := e_bind hF
          (first | refine g_call h lv1 ?_ | refine g_callT h lv1 ?_)
          (conv => arg 1; whnf)
          refine st1 ?_
          rcases e_bif hF with ⟨hb5, hF⟩ | ⟨hb5, hF⟩ <;> (first | rw [hb5] | (conv => arg 7; rw [hb5]) | (conv => arg 9; rw [hb5]))
          · refine st1 ?_
            obtain ⟨_, h, hF⟩ := e_bind hF
            (first | refine g_call h lv1 ?_ | refine g_callT h lv1 ?_)
            (conv => arg 1; whnf)
            refine st1 ?_
            have hq : some _ = some _ := hF
            cases hq
            exact en1
          · refine st1 ?_
            obtain ⟨_, h, hF⟩ := e_bind hF
            (first | refine o_ia (enc := eTRun) (s := 6) h (fun _ => rfl) (by decide) ?_ | refine o_iaT (enc := eTRun) (s := 6) h (fun _ => rfl) (by decide) ?_)
            intro _
            refine st1 ?_
            obtain ⟨_, h, hF⟩ := e_bind hF
            (first | refine o_ia (enc := eTRun) (s := 6) h (fun _ => rfl) (by decide) ?_ | refine o_iaT (enc := eTRun) (s := 6) h (fun _ => rfl) (by decide) ?_)
            intro _
            refine st1 ?_
            (first | refine st_loopF (e_assoc hF) () [(0, _), (1, _), (5, _)] ⟨sT, sS, by rfl, by rfl⟩ ?_ | ((conv => arg 7; try simp only [List.size_toArray, List.length_cons, List.length_nil, Nat.reduceAdd, Nat.zero_add]); (conv => arg 8; try simp only [List.size_toArray, List.length_cons, List.length_nil, Nat.reduceAdd, Nat.zero_add]); (conv => arg 9; try simp only [List.size_toArray, List.length_cons, List.length_nil, Nat.reduceAdd, Nat.zero_add]); refine st_loopF (e_assoc hF) () [(0, 0), (1, 1), (5, 5)] ⟨sT, sS, by rfl, by rfl⟩ ?_))
            · as_aux_lemma =>
              rintro n ⟨_, _⟩ _ x hx1 hF
              (conv => arg 7; whnf); (conv => arg 8; whnf); (conv => arg 9; whnf)
              refine st1 ?_
              rcases e_bif hF with ⟨hb8, hF⟩ | ⟨hb8, hF⟩ <;> (first | rw [hb8] | (conv => arg 7; rw [hb8]) | (conv => arg 9; rw [hb8]))
              · refine st1 ?_
                obtain ⟨_, h, hF⟩ := e_bind hF
                (first | refine o_ia (enc := eTReach) (s := 9) h (fun _ => rfl) (by decide) ?_ | refine o_iaT (enc := eTReach) (s := 9) h (fun _ => rfl) (by decide) ?_)
                intro _
                refine st1 ?_
                (first | exact k_loopF (e_some hF) hx1 () [(0, _), (1, _), (5, _)] ⟨sT, sS, by rfl, by rfl⟩ | exact k_loopF (e_some hF) hx1 () [(0, 0), (1, 1), (5, 5)] ⟨sT, sS, by rfl, by rfl⟩)
              · refine st1 ?_
                (first | have hF := e_next (e_some hF) | have hF := e_some hF)
                (first | refine st_loopF (e_assoc hF) () [(0, _), (1, _), (5, _), (11, _)] ⟨sT, sS, by rfl, by rfl⟩ ?_ | ((conv => arg 7; try simp only [List.size_toArray, List.length_cons, List.length_nil, Nat.reduceAdd, Nat.zero_add]); (conv => arg 8; try simp only [List.size_toArray, List.length_cons, List.length_nil, Nat.reduceAdd, Nat.zero_add]); (conv => arg 9; try simp only [List.size_toArray, List.length_cons, List.length_nil, Nat.reduceAdd, Nat.zero_add]); refine st_loopF (e_assoc hF) () [(0, 0), (1, 1), (5, 5), (11, 11)] ⟨sT, sS, by rfl, by rfl⟩ ?_))
                · as_aux_lemma =>
                  rintro n ⟨_, _⟩ _ x hx1 hF
                  (conv => arg 7; whnf); (conv => arg 8; whnf); (conv => arg 9; whnf)
                  refine st1 ?_
                  rcases e_bif hF with ⟨hb21, hF⟩ | ⟨hb21, hF⟩ <;> (first | rw [hb21] | (conv => arg 7; rw [hb21]) | (conv => arg 9; rw [hb21]))
                  · refine st1 ?_
                    obtain ⟨_, h, hF⟩ := e_bind hF
                    (first | refine o_ia (enc := (eI .u16)) (s := 1) h (fun _ => rfl) (by decide) ?_ | refine o_iaT (enc := (eI .u16)) (s := 1) h (fun _ => rfl) (by decide) ?_)
                    intro _
                    refine st1 ?_
                    obtain ⟨_, h, hF⟩ := e_bind hF
                    (first | refine go_req (nz_ne h) ?_ | refine goT_req (nz_ne h) ?_)
                    (conv => arg 1; whnf)
                    refine st1 ?_
                    obtain ⟨_, h, hF⟩ := e_bind hF
                    (first | refine g_callA h lv1 ?_ | refine g_callAT h lv1 ?_)
                    (conv => arg 1; whnf)
                    refine st1 ?_
                    obtain ⟨_, h, hF⟩ := e_bind hF
                    (first | refine g_call h lv1 ?_ | refine g_callT h lv1 ?_)
                    (conv => arg 1; whnf)
                    refine st1 ?_
                    rcases e_bif hF with ⟨hb22, hF⟩ | ⟨hb22, hF⟩ <;> (first | rw [hb22] | (conv => arg 7; rw [hb22]) | (conv => arg 9; rw [hb22]))
                    · refine st1 ?_
                      (first | have hF := e_next (e_some hF) | have hF := e_some hF)
                      have hq : some _ = some _ := hF
                      cases hq
                      exact en1
                    · refine st1 ?_
                      rcases e_bif hF with ⟨hb23, hF⟩ | ⟨hb23, hF⟩ <;> (first | rw [hb23] | (conv => arg 7; rw [hb23]) | (conv => arg 9; rw [hb23]))
                      · refine st1 ?_
                        (first | have hF := e_next (e_some hF) | have hF := e_some hF)
                        have hq : some _ = some _ := hF
                        cases hq
                        exact en1
                      · refine st1 ?_
                        rcases e_bif hF with ⟨hb24, hF⟩ | ⟨hb24, hF⟩ <;> (first | rw [hb24] | (conv => arg 7; rw [hb24]) | (conv => arg 9; rw [hb24]))
                        · refine st1 ?_
                          (first | have hF := e_next (e_some hF) | have hF := e_some hF)
                          have hq : some _ = some _ := hF
                          cases hq
                          exact en1
                        · refine st1 ?_
                          rcases e_bif hF with ⟨hb25, hF⟩ | ⟨hb25, hF⟩ <;> (first | rw [hb25] | (conv => arg 7; rw [hb25]) | (conv => arg 9; rw [hb25]))
                          · refine st1 ?_
                            obtain ⟨_, h, hF⟩ := e_bind hF
                            (first | refine g_call h lv1 ?_ | refine g_callT h lv1 ?_)
                            (conv => arg 1; whnf)
                            refine st1 ?_
                            (first | have hF := e_next (e_some hF) | have hF := e_some hF)
                            have hq : some _ = some _ := hF
                            cases hq
                            exact en1
                          · refine st1 ?_
                            obtain ⟨_, h, hF⟩ := e_bind hF
                            (first | refine o_ia (enc := (eS eTBounds)) (s := 1) h (fun _ => rfl) (by decide) ?_ | refine o_iaT (enc := (eS eTBounds)) (s := 1) h (fun _ => rfl) (by decide) ?_)
                            intro _
                            refine st1 ?_
                            rcases e_bif hF with ⟨hb26, hF⟩ | ⟨hb26, hF⟩ <;> (first | rw [hb26] | (conv => arg 7; rw [hb26]) | (conv => arg 9; rw [hb26]))
                            · refine st1 ?_
                              obtain ⟨_, h, hF⟩ := e_bind hF
                              (first | refine g_call h lv1 ?_ | refine g_callT h lv1 ?_)
                              (conv => arg 1; whnf)
                              refine st1 ?_
                              (first | have hF := e_next (e_some hF) | have hF := e_some hF)
                              have hq : some _ = some _ := hF
                              cases hq
                              exact en1
                            · refine st1 ?_
                              obtain ⟨_, h, hF⟩ := e_bind hF
                              (first | refine o_app (enc := eTPass) (s := 3) h (fun _ => rfl) ?_ | refine o_appT (enc := eTPass) (s := 3) h (fun _ => rfl) ?_)
                              refine st1 ?_
                              (first | exact k_loopF (e_some hF) hx1 () [(0, _), (1, _), (5, _), (11, _)] ⟨sT, sS, by rfl, by rfl⟩ | exact k_loopF (e_some hF) hx1 () [(0, 0), (1, 1), (5, 5), (11, 11)] ⟨sT, sS, by rfl, by rfl⟩)
                  · refine st1 ?_
                    (first | have hF := e_next (e_some hF) | have hF := e_some hF)
                    obtain ⟨_, h, hF⟩ := e_bind hF
                    (first | refine g_call h lv1 ?_ | refine g_callT h lv1 ?_)
                    (conv => arg 1; whnf)
                    refine st1 ?_
                    obtain ⟨_, h, hF⟩ := e_bind hF
                    (first | refine g_call h lv1 ?_ | refine g_callT h lv1 ?_)
                    (conv => arg 1; whnf)
                    refine st1 ?_
                    obtain ⟨_, h, hF⟩ := e_bind hF
                    (first | refine o_app (enc := eTPass) (s := 3) h (fun _ => rfl) ?_ | refine o_appT (enc := eTPass) (s := 3) h (fun _ => rfl) ?_)
                    refine st1 ?_
                    obtain ⟨_, h, hF⟩ := e_bind hF
                    (first | refine g_call h lv1 ?_ | refine g_callT h lv1 ?_)
                    (conv => arg 1; whnf)
                    refine st1 ?_
                    rcases e_bif hF with ⟨hb27, hF⟩ | ⟨hb27, hF⟩ <;> (first | rw [hb27] | (conv => arg 7; rw [hb27]) | (conv => arg 9; rw [hb27]))
                    · refine st1 ?_
                      rcases e_bif hF with ⟨hb28, hF⟩ | ⟨hb28, hF⟩ <;> (first | rw [hb28] | (conv => arg 7; rw [hb28]) | (conv => arg 9; rw [hb28]))
                      · refine st1 ?_
                        obtain ⟨_, h, hF⟩ := e_bind hF
                        (first | refine g_call h lv1 ?_ | refine g_callT h lv1 ?_)
                        (conv => arg 1; whnf)
                        refine st1 ?_
                        have hq : some _ = some _ := hF
                        cases hq
                        exact en1
                      · refine st1 ?_
                        have hq : some _ = some _ := hF
                        cases hq
                        exact en1
                    · refine st1 ?_
                      rcases e_bif hF with ⟨hb29, hF⟩ | ⟨hb29, hF⟩ <;> (first | rw [hb29] | (conv => arg 7; rw [hb29]) | (conv => arg 9; rw [hb29]))
                      · refine st1 ?_
                        have hq : some _ = some _ := hF
                        cases hq
                        exact en1
                      · refine st1 ?_
                        rcases e_bif hF with ⟨hb30, hF⟩ | ⟨hb30, hF⟩ <;> (first | rw [hb30] | (conv => arg 7; rw [hb30]) | (conv => arg 9; rw [hb30]))
                        · refine st1 ?_
                          have hq : some _ = some _ := hF
                          cases hq
                          exact en1
                        · refine st1 ?_
                          rcases e_bif hF with ⟨hb31, hF⟩ | ⟨hb31, hF⟩ <;> (first | rw [hb31] | (conv => arg 7; rw [hb31]) | (conv => arg 9; rw [hb31]))
                          · refine st1 ?_
                            have hq : some _ = some _ := hF
                            cases hq
                            exact en1
                          · refine st1 ?_
                            rcases e_bif hF with ⟨hb32, hF⟩ | ⟨hb32, hF⟩ <;> (first | rw [hb32] | (conv => arg 7; rw [hb32]) | (conv => arg 9; rw [hb32]))
                            · refine st1 ?_
                              have hq : some _ = some _ := hF
                              cases hq
                              exact en1
                            · refine st1 ?_
                              rcases e_bif hF with ⟨hb33, hF⟩ | ⟨hb33, hF⟩ <;> (first | rw [hb33] | (conv => arg 7; rw [hb33]) | (conv => arg 9; rw [hb33]))
                              · refine st1 ?_
                                have hq : some _ = some _ := hF
                                cases hq
                                exact en1
                              · refine st1 ?_
                                obtain ⟨_, h, hF⟩ := e_bind hF
                                (first | refine g_callA h lv1 ?_ | refine g_callAT h lv1 ?_)
                                (conv => arg 1; whnf)
                                refine st1 ?_
                                obtain ⟨_, h, hF⟩ := e_bind hF
                                (first | refine g_call h lv1 ?_ | refine g_callT h lv1 ?_)
                                (conv => arg 1; whnf)
                                refine st1 ?_
                                obtain ⟨_, h, hF⟩ := e_bind hF
                                (first | refine g_call h lv1 ?_ | refine g_callT h lv1 ?_)
                                (conv => arg 1; whnf)
                                refine st1 ?_
                                (first | refine st_loopF (e_assoc hF) () [(0, _), (1, _), (5, _), (11, _), (30, _), (63, _), (64, _)] ⟨sT, sS, by rfl, by rfl⟩ ?_ | ((conv => arg 7; try simp only [List.size_toArray, List.length_cons, List.length_nil, Nat.reduceAdd, Nat.zero_add]); (conv => arg 8; try simp only [List.size_toArray, List.length_cons, List.length_nil, Nat.reduceAdd, Nat.zero_add]); (conv => arg 9; try simp only [List.size_toArray, List.length_cons, List.length_nil, Nat.reduceAdd, Nat.zero_add]); refine st_loopF (e_assoc hF) () [(0, 0), (1, 1), (5, 5), (11, 11), (30, 30), (63, 63), (64, 64)] ⟨sT, sS, by rfl, by rfl⟩ ?_))
                                · as_aux_lemma =>
                                  rintro n ⟨_, _⟩ _ x hx1 hF
                                  (conv => arg 7; whnf); (conv => arg 8; whnf); (conv => arg 9; whnf)
                                  refine st1 ?_
                                  rcases e_bif hF with ⟨hb36, hF⟩ | ⟨hb36, hF⟩ <;> (first | rw [hb36] | (conv => arg 7; rw [hb36]) | (conv => arg 9; rw [hb36]))
                                  · refine st1 ?_
                                    obtain ⟨_, h, hF⟩ := e_bind hF
                                    (first | refine o_ia (enc := eTRun) (s := 6) h (fun _ => rfl) (by decide) ?_ | refine o_iaT (enc := eTRun) (s := 6) h (fun _ => rfl) (by decide) ?_)
                                    intro _
                                    refine st1 ?_
                                    obtain ⟨_, h, hF⟩ := e_bind hF
                                    (first | refine g_call h lv1 ?_ | refine g_callT h lv1 ?_)
                                    (conv => arg 1; whnf)
                                    refine st1 ?_
                                    obtain ⟨_, h, hF⟩ := e_bind hF
                                    (first | refine g_call h lv1 ?_ | refine g_callT h lv1 ?_)
                                    (conv => arg 1; whnf)
                                    refine st1 ?_
                                    obtain ⟨_, h, hF⟩ := e_bind hF
                                    (first | refine o_ia (enc := eTRun) (s := 6) h (fun _ => rfl) (by decide) ?_ | refine o_iaT (enc := eTRun) (s := 6) h (fun _ => rfl) (by decide) ?_)
                                    intro _
                                    refine st1 ?_
                                    obtain ⟨_, h, hF⟩ := e_bind hF
                                    (first | refine g_call h lv1 ?_ | refine g_callT h lv1 ?_)
                                    (conv => arg 1; whnf)
                                    refine st1 ?_
                                    obtain ⟨_, h, hF⟩ := e_bind hF
                                    (first | refine g_call h lv1 ?_ | refine g_callT h lv1 ?_)
                                    (conv => arg 1; whnf)
                                    refine st1 ?_
                                    obtain ⟨_, hi62, hF⟩ := e_bind hF
                                    (first | refine go_req (oidx_ok hi62 (by decide)) ?_ | refine goT_req (oidx_ok hi62 (by decide)) ?_ | refine go_req (oidx_len hi62 (set_len (by assumption)) (by decide)) ?_ | refine goT_req (oidx_len hi62 (set_len (by assumption)) (by decide)) ?_)
                                    (conv => arg 1; whnf)
                                    refine st1 ?_
                                    obtain ⟨_, h, hF⟩ := e_bind hF
                                    (first | refine o_stA (enc := eTRun) (s := 6) hi62 h (fun _ => rfl) (by decide) rfl rfl ?_ | refine o_stB (enc := eTRun) (s := 6) hi62 h (fun _ => rfl) (by decide) rfl rfl ?_ | refine o_stAT (enc := eTRun) (s := 6) hi62 h (fun _ => rfl) (by decide) rfl rfl ?_ | refine o_stBT (enc := eTRun) (s := 6) hi62 h (fun _ => rfl) (by decide) rfl rfl ?_ | refine o_stC (enc := eTRun) (s := 6) hi62 h (fun _ => rfl) (by decide) rfl rfl ?_ | refine o_stCT (enc := eTRun) (s := 6) hi62 h (fun _ => rfl) (by decide) rfl rfl ?_)
                                    refine st1 ?_
                                    obtain ⟨_, hi65, hF⟩ := e_bind hF
                                    (first | refine go_req (oidx_ok hi65 (by decide)) ?_ | refine goT_req (oidx_ok hi65 (by decide)) ?_ | refine go_req (oidx_len hi65 (set_len (by assumption)) (by decide)) ?_ | refine goT_req (oidx_len hi65 (set_len (by assumption)) (by decide)) ?_)
                                    (conv => arg 1; whnf)
                                    refine st1 ?_
                                    obtain ⟨_, h, hF⟩ := e_bind hF
                                    (first | refine o_stA (enc := eTRun) (s := 6) hi65 h (fun _ => rfl) (by decide) rfl rfl ?_ | refine o_stB (enc := eTRun) (s := 6) hi65 h (fun _ => rfl) (by decide) rfl rfl ?_ | refine o_stAT (enc := eTRun) (s := 6) hi65 h (fun _ => rfl) (by decide) rfl rfl ?_ | refine o_stBT (enc := eTRun) (s := 6) hi65 h (fun _ => rfl) (by decide) rfl rfl ?_ | refine o_stC (enc := eTRun) (s := 6) hi65 h (fun _ => rfl) (by decide) rfl rfl ?_ | refine o_stCT (enc := eTRun) (s := 6) hi65 h (fun _ => rfl) (by decide) rfl rfl ?_)
                                    refine st1 ?_
                                    (first | exact k_loopF (e_some hF) hx1 () [(0, _), (1, _), (5, _), (11, _), (30, _), (63, _), (64, _)] ⟨sT, sS, by rfl, by rfl⟩ | exact k_loopF (e_some hF) hx1 () [(0, 0), (1, 1), (5, 5), (11, 11), (30, 30), (63, 63), (64, 64)] ⟨sT, sS, by rfl, by rfl⟩)
                                  · refine st1 ?_
                                    (first | have hF := e_next (e_some hF) | have hF := e_some hF)
                                    (first | refine st_loopF (e_assoc hF) _ [(0, _), (11, _), (30, _), (63, _), (64, _)] ⟨sT, sS, by rfl, by rfl⟩ ?_ | ((conv => arg 7; try simp only [List.size_toArray, List.length_cons, List.length_nil, Nat.reduceAdd, Nat.zero_add]); (conv => arg 8; try simp only [List.size_toArray, List.length_cons, List.length_nil, Nat.reduceAdd, Nat.zero_add]); (conv => arg 9; try simp only [List.size_toArray, List.length_cons, List.length_nil, Nat.reduceAdd, Nat.zero_add]); refine st_loopF (e_assoc hF) _ [(0, 0), (11, 11), (30, 30), (63, 63), (64, 64)] ⟨sT, sS, by rfl, by rfl⟩ ?_))
                                    · as_aux_lemma =>
                                      rintro n _ _ x hx1 hF
                                      (conv => arg 7; whnf); (conv => arg 8; whnf); (conv => arg 9; whnf)
                                      refine st1 ?_
                                      rcases e_bif hF with ⟨hb57, hF⟩ | ⟨hb57, hF⟩ <;> (first | rw [hb57] | (conv => arg 7; rw [hb57]) | (conv => arg 9; rw [hb57]))
                                      · refine st1 ?_
                                        obtain ⟨_, h, hF⟩ := e_bind hF
                                        (first | refine g_callA h lv1 ?_ | refine g_callAT h lv1 ?_)
                                        (conv => arg 1; whnf)
                                        refine st1 ?_
                                        obtain ⟨_, hi84, hF⟩ := e_bind hF
                                        (first | refine go_req (oidx_ok hi84 (by decide)) ?_ | refine goT_req (oidx_ok hi84 (by decide)) ?_ | refine go_req (oidx_len hi84 (set_len (by assumption)) (by decide)) ?_ | refine goT_req (oidx_len hi84 (set_len (by assumption)) (by decide)) ?_)
                                        (conv => arg 1; whnf)
                                        refine st1 ?_
                                        (first | refine o_ldA (enc := eTPass) (s := 3) hi84 (fun _ => rfl) (by decide) ?_ | refine o_ldB (enc := eTPass) (s := 3) hi84 (fun _ => rfl) (by decide) ?_ | refine o_ldC (enc := eTPass) (s := 3) hi84 (fun _ => rfl) (by decide) ?_ | refine o_ldD (enc := eTPass) (s := 3) hi84 (fun _ => rfl) (by decide) ?_ | refine o_ldAT (enc := eTPass) (s := 3) hi84 (fun _ => rfl) (by decide) ?_ | refine o_ldBT (enc := eTPass) (s := 3) hi84 (fun _ => rfl) (by decide) ?_ | refine o_ldCT (enc := eTPass) (s := 3) hi84 (fun _ => rfl) (by decide) ?_ | refine o_ldDT (enc := eTPass) (s := 3) hi84 (fun _ => rfl) (by decide) ?_)
                                        (conv => arg 1; whnf)
                                        refine st1 ?_
                                        obtain ⟨_, h, hF⟩ := e_bind hF
                                        (first | refine g_call h lv1 ?_ | refine g_callT h lv1 ?_)
                                        (conv => arg 1; whnf)
                                        refine st1 ?_
                                        rcases e_bif hF with ⟨hb58, hF⟩ | ⟨hb58, hF⟩ <;> (first | rw [hb58] | (conv => arg 7; rw [hb58]) | (conv => arg 9; rw [hb58]))
                                        · refine st1 ?_
                                          (first | have hF := e_next (e_some hF) | have hF := e_some hF)
                                          have hq : some _ = some _ := hF
                                          cases hq
                                          exact en1
                                        · refine st1 ?_
                                          rcases e_bif hF with ⟨hb59, hF⟩ | ⟨hb59, hF⟩ <;> (first | rw [hb59] | (conv => arg 7; rw [hb59]) | (conv => arg 9; rw [hb59]))
                                          · refine st1 ?_
                                            (first | have hF := e_next (e_some hF) | have hF := e_some hF)
                                            have hq : some _ = some _ := hF
                                            cases hq
                                            exact en1
                                          · refine st1 ?_
                                            obtain ⟨_, hi87, hF⟩ := e_bind hF
                                            (first | refine go_req (oidx_ok hi87 (by decide)) ?_ | refine goT_req (oidx_ok hi87 (by decide)) ?_ | refine go_req (oidx_len hi87 (set_len (by assumption)) (by decide)) ?_ | refine goT_req (oidx_len hi87 (set_len (by assumption)) (by decide)) ?_)
                                            (conv => arg 1; whnf)
                                            refine st1 ?_
                                            (first | refine o_ldA (enc := eTPass) (s := 3) hi87 (fun _ => rfl) (by decide) ?_ | refine o_ldB (enc := eTPass) (s := 3) hi87 (fun _ => rfl) (by decide) ?_ | refine o_ldC (enc := eTPass) (s := 3) hi87 (fun _ => rfl) (by decide) ?_ | refine o_ldD (enc := eTPass) (s := 3) hi87 (fun _ => rfl) (by decide) ?_ | refine o_ldAT (enc := eTPass) (s := 3) hi87 (fun _ => rfl) (by decide) ?_ | refine o_ldBT (enc := eTPass) (s := 3) hi87 (fun _ => rfl) (by decide) ?_ | refine o_ldCT (enc := eTPass) (s := 3) hi87 (fun _ => rfl) (by decide) ?_ | refine o_ldDT (enc := eTPass) (s := 3) hi87 (fun _ => rfl) (by decide) ?_)
                                            (conv => arg 1; whnf)
                                            refine st1 ?_
                                            rcases e_bif hF with ⟨hb60, hF⟩ | ⟨hb60, hF⟩ <;> (first | rw [hb60] | (conv => arg 7; rw [hb60]) | (conv => arg 9; rw [hb60]))
                                            · refine st1 ?_
                                              (first | have hF := e_next (e_some hF) | have hF := e_some hF)
                                              have hq : some _ = some _ := hF
                                              cases hq
                                              exact en1
                                            · refine st1 ?_
                                              obtain ⟨_, hi89, hF⟩ := e_bind hF
                                              (first | refine go_req (oidx_ok hi89 (by decide)) ?_ | refine goT_req (oidx_ok hi89 (by decide)) ?_ | refine go_req (oidx_len hi89 (set_len (by assumption)) (by decide)) ?_ | refine goT_req (oidx_len hi89 (set_len (by assumption)) (by decide)) ?_)
                                              (conv => arg 1; whnf)
                                              refine st1 ?_
                                              (first | refine o_ldA (enc := eTPass) (s := 3) hi89 (fun _ => rfl) (by decide) ?_ | refine o_ldB (enc := eTPass) (s := 3) hi89 (fun _ => rfl) (by decide) ?_ | refine o_ldC (enc := eTPass) (s := 3) hi89 (fun _ => rfl) (by decide) ?_ | refine o_ldD (enc := eTPass) (s := 3) hi89 (fun _ => rfl) (by decide) ?_ | refine o_ldAT (enc := eTPass) (s := 3) hi89 (fun _ => rfl) (by decide) ?_ | refine o_ldBT (enc := eTPass) (s := 3) hi89 (fun _ => rfl) (by decide) ?_ | refine o_ldCT (enc := eTPass) (s := 3) hi89 (fun _ => rfl) (by decide) ?_ | refine o_ldDT (enc := eTPass) (s := 3) hi89 (fun _ => rfl) (by decide) ?_)
                                              (conv => arg 1; whnf)
                                              refine st1 ?_
                                              rcases e_bif hF with ⟨hb61, hF⟩ | ⟨hb61, hF⟩ <;> (first | rw [hb61] | (conv => arg 7; rw [hb61]) | (conv => arg 9; rw [hb61]))
                                              · refine st1 ?_
                                                (first | have hF := e_next (e_some hF) | have hF := e_some hF)
                                                have hq : some _ = some _ := hF
                                                cases hq
                                                exact en1
                                              · refine st1 ?_
                                                obtain ⟨_, h, hF⟩ := e_bind hF
                                                (first | refine g_call h lv1 ?_ | refine g_callT h lv1 ?_)
                                                (conv => arg 1; whnf)
                                                refine st1 ?_
                                                obtain ⟨_, h, hF⟩ := e_bind hF
                                                (first | refine g_call h lv1 ?_ | refine g_callT h lv1 ?_)
                                                (conv => arg 1; whnf)
                                                refine st1 ?_
                                                obtain ⟨_, hi93, hF⟩ := e_bind hF
                                                (first | refine go_req (oidx_ok hi93 (by decide)) ?_ | refine goT_req (oidx_ok hi93 (by decide)) ?_ | refine go_req (oidx_len hi93 (set_len (by assumption)) (by decide)) ?_ | refine goT_req (oidx_len hi93 (set_len (by assumption)) (by decide)) ?_)
                                                (conv => arg 1; whnf)
                                                refine st1 ?_
                                                (first | refine o_ldA (enc := eTPass) (s := 3) hi93 (fun _ => rfl) (by decide) ?_ | refine o_ldB (enc := eTPass) (s := 3) hi93 (fun _ => rfl) (by decide) ?_ | refine o_ldC (enc := eTPass) (s := 3) hi93 (fun _ => rfl) (by decide) ?_ | refine o_ldD (enc := eTPass) (s := 3) hi93 (fun _ => rfl) (by decide) ?_ | refine o_ldAT (enc := eTPass) (s := 3) hi93 (fun _ => rfl) (by decide) ?_ | refine o_ldBT (enc := eTPass) (s := 3) hi93 (fun _ => rfl) (by decide) ?_ | refine o_ldCT (enc := eTPass) (s := 3) hi93 (fun _ => rfl) (by decide) ?_ | refine o_ldDT (enc := eTPass) (s := 3) hi93 (fun _ => rfl) (by decide) ?_)
                                                (conv => arg 1; whnf)
                                                refine st1 ?_
                                                obtain ⟨_, h, hF⟩ := e_bind hF
                                                (first | refine g_call h lv1 ?_ | refine g_callT h lv1 ?_)
                                                (conv => arg 1; whnf)
                                                refine st1 ?_
                                                rcases e_bif hF with ⟨hb62, hF⟩ | ⟨hb62, hF⟩ <;> (first | rw [hb62] | (conv => arg 7; rw [hb62]) | (conv => arg 9; rw [hb62]))
                                                · refine st1 ?_
                                                  (first | have hF := e_next (e_some hF) | have hF := e_some hF)
                                                  have hq : some _ = some _ := hF
                                                  cases hq
                                                  exact en1
                                                · refine st1 ?_
                                                  rcases e_bif hF with ⟨hb63, hF⟩ | ⟨hb63, hF⟩ <;> (first | rw [hb63] | (conv => arg 7; rw [hb63]) | (conv => arg 9; rw [hb63]))
                                                  · refine st1 ?_
                                                    (first | have hF := e_next (e_some hF) | have hF := e_some hF)
                                                    have hq : some _ = some _ := hF
                                                    cases hq
                                                    exact en1
                                                  · refine st1 ?_
                                                    rcases e_bif hF with ⟨hb64, hF⟩ | ⟨hb64, hF⟩ <;> (first | rw [hb64] | (conv => arg 7; rw [hb64]) | (conv => arg 9; rw [hb64]))
                                                    · refine st1 ?_
                                                      rcases e_bif hF with ⟨hb65, hF⟩ | ⟨hb65, hF⟩ <;> (first | rw [hb65] | (conv => arg 7; rw [hb65]) | (conv => arg 9; rw [hb65]))
                                                      · refine st1 ?_
                                                        rcases e_bif hF with ⟨hb66, hF⟩ | ⟨hb66, hF⟩ <;> (first | rw [hb66] | (conv => arg 7; rw [hb66]) | (conv => arg 9; rw [hb66]))
                                                        · refine st1 ?_
                                                          (first | have hF := e_next (e_some hF) | have hF := e_some hF)
                                                          have hq : some _ = some _ := hF
                                                          cases hq
                                                          exact en1
                                                        · refine st1 ?_
                                                          (first | exact k_loopF (e_some hF) hx1 _ [(0, _), (11, _), (30, _), (63, _), (64, _)] ⟨sT, sS, by rfl, by rfl⟩ | exact k_loopF (e_some hF) hx1 _ [(0, 0), (11, 11), (30, 30), (63, 63), (64, 64)] ⟨sT, sS, by rfl, by rfl⟩)
                                                      · refine st1 ?_
                                                        (first | exact k_loopF (e_some hF) hx1 _ [(0, _), (11, _), (30, _), (63, _), (64, _)] ⟨sT, sS, by rfl, by rfl⟩ | exact k_loopF (e_some hF) hx1 _ [(0, 0), (11, 11), (30, 30), (63, 63), (64, 64)] ⟨sT, sS, by rfl, by rfl⟩)
                                                    · refine st1 ?_
                                                      (first | exact k_loopF (e_some hF) hx1 _ [(0, _), (11, _), (30, _), (63, _), (64, _)] ⟨sT, sS, by rfl, by rfl⟩ | exact k_loopF (e_some hF) hx1 _ [(0, 0), (11, 11), (30, 30), (63, 63), (64, 64)] ⟨sT, sS, by rfl, by rfl⟩)
                                      · refine st1 ?_
                                        (first | have hF := e_next (e_some hF) | have hF := e_some hF)
                                        obtain ⟨_, h, hF⟩ := e_bind hF
                                        (first | refine g_call h lv1 ?_ | refine g_callT h lv1 ?_)
                                        (conv => arg 1; whnf)
                                        refine st1 ?_
                                        have hq : some _ = some _ := hF
                                        cases hq
                                        exact en1

end Go.Ev
