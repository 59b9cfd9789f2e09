/- A part of the proof of TowMeasures. -/
import Derived.Test.YtkimjjjaifmioaaW9
/- The functions do what is said. -/
set_option linter.unusedVariables false
set_option linter.unusedSimpArgs false
namespace Go.Ev
open Go.Proofs
set_option maxHeartbeats 8000000
set_option maxRecDepth 100000
@[reducible] noncomputable def c_thalweglaw03_TowTruths : Con := conF F_thalweglaw03_TowTruths (fun x => match x with | (a0, a1, a2) => [(V.agg (eTanon67 a0)), (V.agg (eTNarrow a1)), (V.agg (eTanon71 a2))]) (fun r => (V.v (.bool (r))))
theorem fl_thalweglaw03_TowTruths_39 : flatOf Try.prog 9 39 = some [true, true] := by kernel_rfl
theorem eg_thalweglaw03_TowTruths_39 : Try.prog.eqGuardType Try.prog.depth 39 = false := by kernel_rfl
theorem ag_thalweglaw03_TowTruths_39 : aggOf Try.prog 39 = some true := by kernel_rfl
theorem h_thalweglaw03_TowTruths : Has Try.prog 7 c_thalweglaw03_TowTruths := by
  refine hasF (ctx_cons h_thalweglaw03_truly (ctx_cons h_thalweglaw03_sound (ctx_cons h_tow_Meet (ctx_cons h_tow_Through (ctx_cons h_tow_Arrive (ctx_cons h_thalweglaw03_copied (ctx_cons h_thalweglaw03_known ctx_nil))))))) mix Try.func7 rfl (by kernel_rfl) ?_
  rintro ⟨a0, a1, a2⟩ r hF
  refine ⟨of_decide_eq_true rfl, ?_⟩
  refine st1 ?_
  obtain ⟨_, h, hF⟩ := e_bind hF
  (first | refine g_call h lv1 ?_ | refine g_callT h lv1 ?_)
  (conv => arg 1; whnf)
  refine st1 ?_
  rcases e_bif hF with ⟨hb1, hF⟩ | ⟨hb1, hF⟩ <;> (first | rw [hb1] | (conv => arg 7; rw [hb1]) | (conv => arg 9; rw [hb1]))
  · refine st1 ?_
    obtain ⟨_, h, hF⟩ := e_bind hF
    (first | refine g_call h lv1 ?_ | refine g_callT h lv1 ?_)
    (conv => arg 1; whnf)
    refine st1 ?_
    have hq : some _ = some _ := hF
    cases hq
    exact en1
  · refine st1 ?_
    obtain ⟨_, h, hF⟩ := e_bind hF
    (first | refine g_call h lv1 ?_ | refine g_callT h lv1 ?_)
    (conv => arg 1; whnf)
    refine st1 ?_
    rcases e_bif hF with ⟨hb2, hF⟩ | ⟨hb2, hF⟩ <;> (first | rw [hb2] | (conv => arg 7; rw [hb2]) | (conv => arg 9; rw [hb2]))
    · refine st1 ?_
      obtain ⟨_, h, hF⟩ := e_bind hF
      (first | refine g_call h lv1 ?_ | refine g_callT h lv1 ?_)
      (conv => arg 1; whnf)
      refine st1 ?_
      have hq : some _ = some _ := hF
      cases hq
      exact en1
    · refine st1 ?_
      obtain ⟨_, h, hF⟩ := e_bind hF
      (first | refine g_call h lv1 ?_ | refine g_callT h lv1 ?_)
      (conv => arg 1; whnf)
      refine st1 ?_
      obtain ⟨_, h, hF⟩ := e_bind hF
      (first | refine g_call h lv1 ?_ | refine g_callT h lv1 ?_)
      (conv => arg 1; whnf)
      refine st1 ?_
      obtain ⟨_, h, hF⟩ := e_bind hF
      (first | refine g_call h lv1 ?_ | refine g_callT h lv1 ?_)
      (conv => arg 1; whnf)
      refine st1 ?_
      rcases e_bif hF with ⟨hb3, hF⟩ | ⟨hb3, hF⟩ <;> (first | rw [hb3] | (conv => arg 7; rw [hb3]) | (conv => arg 9; rw [hb3]))
      · refine st1 ?_
        rcases e_bif hF with ⟨hb4, hF⟩ | ⟨hb4, hF⟩ <;> (first | rw [hb4] | (conv => arg 7; rw [hb4]) | (conv => arg 9; rw [hb4]))
        · refine st1 ?_
          rcases e_bif hF with ⟨hb5, hF⟩ | ⟨hb5, hF⟩ <;> (first | rw [hb5] | (conv => arg 7; rw [hb5]) | (conv => arg 9; rw [hb5]))
          · refine st1 ?_
            obtain ⟨_, h, hF⟩ := e_bind hF
            (first | refine g_call h lv1 ?_ | refine g_callT h lv1 ?_)
            (conv => arg 1; whnf)
            refine st1 ?_
            have hq : some _ = some _ := hF
            cases hq
            exact en1
          · refine st1 ?_
            have hq : some _ = some _ := hF
            cases hq
            exact en1
        · refine st1 ?_
          have hq : some _ = some _ := hF
          cases hq
          exact en1
      · refine st1 ?_
        refine st_loopF (e_assoc hF) () [(0, _), (1, _), (2, _), (33, _), (34, _)] ⟨sT, sS, by rfl, by rfl⟩ ?_
        · rintro n ⟨_, _, _, _, _, _⟩ _ x hx1 hF
          (conv => arg 7; whnf); (conv => arg 8; whnf); (conv => arg 9; whnf)
          refine st1 ?_
          rcases e_bif hF with ⟨hb183, hF⟩ | ⟨hb183, hF⟩ <;> (first | rw [hb183] | (conv => arg 7; rw [hb183]) | (conv => arg 9; rw [hb183]))
          · refine st1 ?_
            rcases e_bif hF with ⟨hb184, hF⟩ | ⟨hb184, hF⟩
            · skip
              (first | refine o_ib (eq_of_beq hb184) rfl ?_ | refine o_ibT (eq_of_beq hb184) rfl ?_ | refine o_ix (eq_of_beq hb184) rfl ?_ | refine o_ixT (eq_of_beq hb184) rfl ?_)
              (conv => arg 1; whnf)
              refine st1 ?_
              obtain ⟨_, h, hF⟩ := e_bind hF
              (first | refine g_call h lv1 ?_ | refine g_callT h lv1 ?_)
              (conv => arg 1; whnf)
              refine st1 ?_
              obtain ⟨_, h, hF⟩ := e_bind hF
              (first | refine g_call h lv1 ?_ | refine g_callT h lv1 ?_)
              (conv => arg 1; whnf)
              refine st1 ?_
              rcases e_bif hF with ⟨hb185, hF⟩ | ⟨hb185, hF⟩ <;> (first | rw [hb185] | (conv => arg 7; rw [hb185]) | (conv => arg 9; rw [hb185]))
              · refine st1 ?_
                have hF := e_some hF
                have hq : some _ = some _ := hF
                cases hq
                exact en1
              · refine st1 ?_
                rcases e_bif hF with ⟨hb186, hF⟩ | ⟨hb186, hF⟩ <;> (first | rw [hb186] | (conv => arg 7; rw [hb186]) | (conv => arg 9; rw [hb186]))
                · refine st1 ?_
                  rcases e_bif hF with ⟨hb187, hF⟩ | ⟨hb187, hF⟩ <;> (first | rw [hb187] | (conv => arg 7; rw [hb187]) | (conv => arg 9; rw [hb187]))
                  · refine st1 ?_
                    rw [fl_thalweglaw03_TowTruths_39, eg_thalweglaw03_TowTruths_39, ag_thalweglaw03_TowTruths_39]
                    (conv => arg 1; whnf)
                    refine st1 ?_
                    rcases e_bif hF with ⟨hb188, hF⟩ | ⟨hb188, hF⟩ <;> (first | rw [hb188] | (conv => arg 7; rw [hb188]) | (conv => arg 9; rw [hb188]))
                    · refine st1 ?_
                      have hF := e_some hF
                      have hq : some _ = some _ := hF
                      cases hq
                      exact en1
                    · refine st1 ?_
                      rw [fl_thalweglaw03_TowTruths_39, eg_thalweglaw03_TowTruths_39, ag_thalweglaw03_TowTruths_39]
                      (conv => arg 1; whnf)
                      refine st1 ?_
                      rcases e_bif hF with ⟨hb189, hF⟩ | ⟨hb189, hF⟩ <;> (first | rw [hb189] | (conv => arg 7; rw [hb189]) | (conv => arg 9; rw [hb189]))
                      · refine st1 ?_
                        have hF := e_some hF
                        have hq : some _ = some _ := hF
                        cases hq
                        exact en1
                      · refine st1 ?_
                        exact k_loopF (e_some hF) hx1 () [(0, _), (1, _), (2, _), (33, _), (34, _)] ⟨sT, sS, by rfl, by rfl⟩
                  · refine st1 ?_
                    (first | refine o_ib (eq_of_beq hb184) rfl ?_ | refine o_ibT (eq_of_beq hb184) rfl ?_ | refine o_ix (eq_of_beq hb184) rfl ?_ | refine o_ixT (eq_of_beq hb184) rfl ?_)
                    (conv => arg 1; whnf)
                    refine st1 ?_
                    (first | refine o_ib (eq_of_beq hb184) rfl ?_ | refine o_ibT (eq_of_beq hb184) rfl ?_ | refine o_ix (eq_of_beq hb184) rfl ?_ | refine o_ixT (eq_of_beq hb184) rfl ?_)
                    (conv => arg 1; whnf)
                    refine st1 ?_
                    obtain ⟨_, h, hF⟩ := e_bind hF
                    (first | refine o_ia (enc := eTRun) (s := 6) h (fun _ => rfl) (by decide) ?_ | refine o_iaT (enc := eTRun) (s := 6) h (fun _ => rfl) (by decide) ?_)
                    intro _
                    refine st1 ?_
                    (first | refine o_ib (eq_of_beq hb184) rfl ?_ | refine o_ibT (eq_of_beq hb184) rfl ?_ | refine o_ix (eq_of_beq hb184) rfl ?_ | refine o_ixT (eq_of_beq hb184) rfl ?_)
                    (conv => arg 1; whnf)
                    refine st1 ?_
                    obtain ⟨_, h, hF⟩ := e_bind hF
                    (first | refine o_ia (enc := eTRun) (s := 6) h (fun _ => rfl) (by decide) ?_ | refine o_iaT (enc := eTRun) (s := 6) h (fun _ => rfl) (by decide) ?_)
                    intro _
                    refine st1 ?_
                    rcases e_bif hF with ⟨hb190, hF⟩ | ⟨hb190, hF⟩ <;> (first | rw [hb190] | (conv => arg 7; rw [hb190]) | (conv => arg 9; rw [hb190]))
                    · refine st1 ?_
                      (first | refine o_ib (eq_of_beq hb184) rfl ?_ | refine o_ibT (eq_of_beq hb184) rfl ?_ | refine o_ix (eq_of_beq hb184) rfl ?_ | refine o_ixT (eq_of_beq hb184) rfl ?_)
                      (conv => arg 1; whnf)
                      refine st1 ?_
                      (first | refine o_ib (eq_of_beq hb184) rfl ?_ | refine o_ibT (eq_of_beq hb184) rfl ?_ | refine o_ix (eq_of_beq hb184) rfl ?_ | refine o_ixT (eq_of_beq hb184) rfl ?_)
                      (conv => arg 1; whnf)
                      refine st1 ?_
                      obtain ⟨_, h, hF⟩ := e_bind hF
                      (first | refine g_call h lv1 ?_ | refine g_callT h lv1 ?_)
                      (conv => arg 1; whnf)
                      refine st1 ?_
                      (first | refine o_ib (eq_of_beq hb184) rfl ?_ | refine o_ibT (eq_of_beq hb184) rfl ?_ | refine o_ix (eq_of_beq hb184) rfl ?_ | refine o_ixT (eq_of_beq hb184) rfl ?_)
                      (conv => arg 1; whnf)
                      refine st1 ?_
                      (first | refine o_ib (eq_of_beq hb184) rfl ?_ | refine o_ibT (eq_of_beq hb184) rfl ?_ | refine o_ix (eq_of_beq hb184) rfl ?_ | refine o_ixT (eq_of_beq hb184) rfl ?_)
                      (conv => arg 1; whnf)
                      refine st1 ?_
                      obtain ⟨_, h, hF⟩ := e_bind hF
                      (first | refine g_call h lv1 ?_ | refine g_callT h lv1 ?_)
                      (conv => arg 1; whnf)
                      refine st1 ?_
                      (first | refine o_ib (eq_of_beq hb184) rfl ?_ | refine o_ibT (eq_of_beq hb184) rfl ?_ | refine o_ix (eq_of_beq hb184) rfl ?_ | refine o_ixT (eq_of_beq hb184) rfl ?_)
                      (conv => arg 1; whnf)
                      refine st1 ?_
                      (first | refine o_ib (eq_of_beq hb184) rfl ?_ | refine o_ibT (eq_of_beq hb184) rfl ?_ | refine o_ix (eq_of_beq hb184) rfl ?_ | refine o_ixT (eq_of_beq hb184) rfl ?_)
                      (conv => arg 1; whnf)
                      refine st1 ?_
                      (first | refine o_ib (eq_of_beq hb184) rfl ?_ | refine o_ibT (eq_of_beq hb184) rfl ?_ | refine o_ix (eq_of_beq hb184) rfl ?_ | refine o_ixT (eq_of_beq hb184) rfl ?_)
                      (conv => arg 1; whnf)
                      refine st1 ?_
                      rcases e_bif hF with ⟨hb191, hF⟩ | ⟨hb191, hF⟩ <;> (first | rw [hb191] | (conv => arg 7; rw [hb191]) | (conv => arg 9; rw [hb191]))
                      · refine st1 ?_
                        have hF := e_some hF
                        have hq : some _ = some _ := hF
                        cases hq
                        exact en1
                      · refine st1 ?_
                        (first | refine o_ib (eq_of_beq hb184) rfl ?_ | refine o_ibT (eq_of_beq hb184) rfl ?_ | refine o_ix (eq_of_beq hb184) rfl ?_ | refine o_ixT (eq_of_beq hb184) rfl ?_)
                        (conv => arg 1; whnf)
                        refine st1 ?_
                        rcases e_bif hF with ⟨hb192, hF⟩ | ⟨hb192, hF⟩ <;> (first | rw [hb192] | (conv => arg 7; rw [hb192]) | (conv => arg 9; rw [hb192]))
                        · refine st1 ?_
                          have hF := e_some hF
                          have hq : some _ = some _ := hF
                          cases hq
                          exact en1
                        · refine st1 ?_
                          (first | refine o_ib (eq_of_beq hb184) rfl ?_ | refine o_ibT (eq_of_beq hb184) rfl ?_ | refine o_ix (eq_of_beq hb184) rfl ?_ | refine o_ixT (eq_of_beq hb184) rfl ?_)
                          (conv => arg 1; whnf)
                          refine st1 ?_
                          rcases e_bif hF with ⟨hb193, hF⟩ | ⟨hb193, hF⟩ <;> (first | rw [hb193] | (conv => arg 7; rw [hb193]) | (conv => arg 9; rw [hb193]))
                          · refine st1 ?_
                            have hF := e_some hF
                            have hq : some _ = some _ := hF
                            cases hq
                            exact en1
                          · refine st1 ?_
                            (first | refine o_ib (eq_of_beq hb184) rfl ?_ | refine o_ibT (eq_of_beq hb184) rfl ?_ | refine o_ix (eq_of_beq hb184) rfl ?_ | refine o_ixT (eq_of_beq hb184) rfl ?_)
                            (conv => arg 1; whnf)
                            refine st1 ?_
                            rcases e_bif hF with ⟨hb194, hF⟩ | ⟨hb194, hF⟩ <;> (first | rw [hb194] | (conv => arg 7; rw [hb194]) | (conv => arg 9; rw [hb194]))
                            · refine st1 ?_
                              have hF := e_some hF
                              have hq : some _ = some _ := hF
                              cases hq
                              exact en1
                            · refine st1 ?_
                              (first | refine o_ib (eq_of_beq hb184) rfl ?_ | refine o_ibT (eq_of_beq hb184) rfl ?_ | refine o_ix (eq_of_beq hb184) rfl ?_ | refine o_ixT (eq_of_beq hb184) rfl ?_)
                              (conv => arg 1; whnf)
                              refine st1 ?_
                              (first | refine o_ib (eq_of_beq hb184) rfl ?_ | refine o_ibT (eq_of_beq hb184) rfl ?_ | refine o_ix (eq_of_beq hb184) rfl ?_ | refine o_ixT (eq_of_beq hb184) rfl ?_)
                              (conv => arg 1; whnf)
                              refine st1 ?_
                              rcases e_bif hF with ⟨hb195, hF⟩ | ⟨hb195, hF⟩ <;> (first | rw [hb195] | (conv => arg 7; rw [hb195]) | (conv => arg 9; rw [hb195]))
                              · refine st1 ?_
                                have hF := e_some hF
                                have hq : some _ = some _ := hF
                                cases hq
                                exact en1
                              · refine st1 ?_
                                (first | refine o_ib (eq_of_beq hb184) rfl ?_ | refine o_ibT (eq_of_beq hb184) rfl ?_ | refine o_ix (eq_of_beq hb184) rfl ?_ | refine o_ixT (eq_of_beq hb184) rfl ?_)
                                (conv => arg 1; whnf)
                                refine st1 ?_
                                obtain ⟨_, h, hF⟩ := e_bind hF
                                (first | refine g_call h lv1 ?_ | refine g_callT h lv1 ?_)
                                (conv => arg 1; whnf)
                                refine st1 ?_
                                obtain ⟨_, h, hF⟩ := e_bind hF
                                (first | refine g_call h lv1 ?_ | refine g_callT h lv1 ?_)
                                (conv => arg 1; whnf)
                                refine st1 ?_
                                rcases e_bif hF with ⟨hb196, hF⟩ | ⟨hb196, hF⟩ <;> (first | rw [hb196] | (conv => arg 7; rw [hb196]) | (conv => arg 9; rw [hb196]))
                                · refine st1 ?_
                                  have hF := e_some hF
                                  have hq : some _ = some _ := hF
                                  cases hq
                                  exact en1
                                · refine st1 ?_
                                  rw [fl_thalweglaw03_TowTruths_39, eg_thalweglaw03_TowTruths_39, ag_thalweglaw03_TowTruths_39]
                                  (conv => arg 1; whnf)
                                  refine st1 ?_
                                  rcases e_bif hF with ⟨hb197, hF⟩ | ⟨hb197, hF⟩ <;> (first | rw [hb197] | (conv => arg 7; rw [hb197]) | (conv => arg 9; rw [hb197]))
                                  · refine st1 ?_
                                    have hF := e_some hF
                                    have hq : some _ = some _ := hF
                                    cases hq
                                    exact en1
                                  · refine st1 ?_
                                    exact k_loopF (e_some hF) hx1 () [(0, _), (1, _), (2, _), (33, _), (34, _)] ⟨sT, sS, by rfl, by rfl⟩
                    · refine st1 ?_
                      (first | refine o_ib (eq_of_beq hb184) rfl ?_ | refine o_ibT (eq_of_beq hb184) rfl ?_ | refine o_ix (eq_of_beq hb184) rfl ?_ | refine o_ixT (eq_of_beq hb184) rfl ?_)
                      (conv => arg 1; whnf)
                      refine st1 ?_
                      (first | refine o_ib (eq_of_beq hb184) rfl ?_ | refine o_ibT (eq_of_beq hb184) rfl ?_ | refine o_ix (eq_of_beq hb184) rfl ?_ | refine o_ixT (eq_of_beq hb184) rfl ?_)
                      (conv => arg 1; whnf)
                      refine st1 ?_
                      obtain ⟨_, h, hF⟩ := e_bind hF
                      (first | refine g_call h lv1 ?_ | refine g_callT h lv1 ?_)
                      (conv => arg 1; whnf)
                      refine st1 ?_
                      (first | refine o_ib (eq_of_beq hb184) rfl ?_ | refine o_ibT (eq_of_beq hb184) rfl ?_ | refine o_ix (eq_of_beq hb184) rfl ?_ | refine o_ixT (eq_of_beq hb184) rfl ?_)
                      (conv => arg 1; whnf)
                      refine st1 ?_
                      (first | refine o_ib (eq_of_beq hb184) rfl ?_ | refine o_ibT (eq_of_beq hb184) rfl ?_ | refine o_ix (eq_of_beq hb184) rfl ?_ | refine o_ixT (eq_of_beq hb184) rfl ?_)
                      (conv => arg 1; whnf)
                      refine st1 ?_
                      obtain ⟨_, h, hF⟩ := e_bind hF
                      (first | refine g_call h lv1 ?_ | refine g_callT h lv1 ?_)
                      (conv => arg 1; whnf)
                      refine st1 ?_
                      (first | refine o_ib (eq_of_beq hb184) rfl ?_ | refine o_ibT (eq_of_beq hb184) rfl ?_ | refine o_ix (eq_of_beq hb184) rfl ?_ | refine o_ixT (eq_of_beq hb184) rfl ?_)
                      (conv => arg 1; whnf)
                      refine st1 ?_
                      (first | refine o_ib (eq_of_beq hb184) rfl ?_ | refine o_ibT (eq_of_beq hb184) rfl ?_ | refine o_ix (eq_of_beq hb184) rfl ?_ | refine o_ixT (eq_of_beq hb184) rfl ?_)
                      (conv => arg 1; whnf)
                      refine st1 ?_
                      (first | refine o_ib (eq_of_beq hb184) rfl ?_ | refine o_ibT (eq_of_beq hb184) rfl ?_ | refine o_ix (eq_of_beq hb184) rfl ?_ | refine o_ixT (eq_of_beq hb184) rfl ?_)
                      (conv => arg 1; whnf)
                      refine st1 ?_
                      rcases e_bif hF with ⟨hb198, hF⟩ | ⟨hb198, hF⟩ <;> (first | rw [hb198] | (conv => arg 7; rw [hb198]) | (conv => arg 9; rw [hb198]))
                      · refine st1 ?_
                        have hF := e_some hF
                        have hq : some _ = some _ := hF
                        cases hq
                        exact en1
                      · refine st1 ?_
                        (first | refine o_ib (eq_of_beq hb184) rfl ?_ | refine o_ibT (eq_of_beq hb184) rfl ?_ | refine o_ix (eq_of_beq hb184) rfl ?_ | refine o_ixT (eq_of_beq hb184) rfl ?_)
                        (conv => arg 1; whnf)
                        refine st1 ?_
                        rcases e_bif hF with ⟨hb199, hF⟩ | ⟨hb199, hF⟩ <;> (first | rw [hb199] | (conv => arg 7; rw [hb199]) | (conv => arg 9; rw [hb199]))
                        · refine st1 ?_
                          have hF := e_some hF
                          have hq : some _ = some _ := hF
                          cases hq
                          exact en1
                        · refine st1 ?_
                          (first | refine o_ib (eq_of_beq hb184) rfl ?_ | refine o_ibT (eq_of_beq hb184) rfl ?_ | refine o_ix (eq_of_beq hb184) rfl ?_ | refine o_ixT (eq_of_beq hb184) rfl ?_)
                          (conv => arg 1; whnf)
                          refine st1 ?_
                          rcases e_bif hF with ⟨hb200, hF⟩ | ⟨hb200, hF⟩ <;> (first | rw [hb200] | (conv => arg 7; rw [hb200]) | (conv => arg 9; rw [hb200]))
                          · refine st1 ?_
                            have hF := e_some hF
                            have hq : some _ = some _ := hF
                            cases hq
                            exact en1
                          · refine st1 ?_
                            (first | refine o_ib (eq_of_beq hb184) rfl ?_ | refine o_ibT (eq_of_beq hb184) rfl ?_ | refine o_ix (eq_of_beq hb184) rfl ?_ | refine o_ixT (eq_of_beq hb184) rfl ?_)
                            (conv => arg 1; whnf)
                            refine st1 ?_
                            rcases e_bif hF with ⟨hb201, hF⟩ | ⟨hb201, hF⟩ <;> (first | rw [hb201] | (conv => arg 7; rw [hb201]) | (conv => arg 9; rw [hb201]))
                            · refine st1 ?_
                              have hF := e_some hF
                              have hq : some _ = some _ := hF
                              cases hq
                              exact en1
                            · refine st1 ?_
                              (first | refine o_ib (eq_of_beq hb184) rfl ?_ | refine o_ibT (eq_of_beq hb184) rfl ?_ | refine o_ix (eq_of_beq hb184) rfl ?_ | refine o_ixT (eq_of_beq hb184) rfl ?_)
                              (conv => arg 1; whnf)
                              refine st1 ?_
                              (first | refine o_ib (eq_of_beq hb184) rfl ?_ | refine o_ibT (eq_of_beq hb184) rfl ?_ | refine o_ix (eq_of_beq hb184) rfl ?_ | refine o_ixT (eq_of_beq hb184) rfl ?_)
                              (conv => arg 1; whnf)
                              refine st1 ?_
                              rcases e_bif hF with ⟨hb202, hF⟩ | ⟨hb202, hF⟩ <;> (first | rw [hb202] | (conv => arg 7; rw [hb202]) | (conv => arg 9; rw [hb202]))
                              · refine st1 ?_
                                have hF := e_some hF
                                have hq : some _ = some _ := hF
                                cases hq
                                exact en1
                              · refine st1 ?_
                                (first | refine o_ib (eq_of_beq hb184) rfl ?_ | refine o_ibT (eq_of_beq hb184) rfl ?_ | refine o_ix (eq_of_beq hb184) rfl ?_ | refine o_ixT (eq_of_beq hb184) rfl ?_)
                                (conv => arg 1; whnf)
                                refine st1 ?_
                                obtain ⟨_, h, hF⟩ := e_bind hF
                                (first | refine g_call h lv1 ?_ | refine g_callT h lv1 ?_)
                                (conv => arg 1; whnf)
                                refine st1 ?_
                                obtain ⟨_, h, hF⟩ := e_bind hF
                                (first | refine g_call h lv1 ?_ | refine g_callT h lv1 ?_)
                                (conv => arg 1; whnf)
                                refine st1 ?_
                                rcases e_bif hF with ⟨hb203, hF⟩ | ⟨hb203, hF⟩ <;> (first | rw [hb203] | (conv => arg 7; rw [hb203]) | (conv => arg 9; rw [hb203]))
                                · refine st1 ?_
                                  have hF := e_some hF
                                  have hq : some _ = some _ := hF
                                  cases hq
                                  exact en1
                                · refine st1 ?_
                                  rw [fl_thalweglaw03_TowTruths_39, eg_thalweglaw03_TowTruths_39, ag_thalweglaw03_TowTruths_39]
                                  (conv => arg 1; whnf)
                                  refine st1 ?_
                                  rcases e_bif hF with ⟨hb204, hF⟩ | ⟨hb204, hF⟩ <;> (first | rw [hb204] | (conv => arg 7; rw [hb204]) | (conv => arg 9; rw [hb204]))
                                  · refine st1 ?_
                                    have hF := e_some hF
                                    have hq : some _ = some _ := hF
                                    cases hq
                                    exact en1
                                  · refine st1 ?_
                                    exact k_loopF (e_some hF) hx1 () [(0, _), (1, _), (2, _), (33, _), (34, _)] ⟨sT, sS, by rfl, by rfl⟩
                · refine st1 ?_
                  rcases e_bif hF with ⟨hb205, hF⟩ | ⟨hb205, hF⟩ <;> (first | rw [hb205] | (conv => arg 7; rw [hb205]) | (conv => arg 9; rw [hb205]))
                  · refine st1 ?_
                    rw [fl_thalweglaw03_TowTruths_39, eg_thalweglaw03_TowTruths_39, ag_thalweglaw03_TowTruths_39]
                    (conv => arg 1; whnf)
                    refine st1 ?_
                    rcases e_bif hF with ⟨hb206, hF⟩ | ⟨hb206, hF⟩ <;> (first | rw [hb206] | (conv => arg 7; rw [hb206]) | (conv => arg 9; rw [hb206]))
                    · refine st1 ?_
                      have hF := e_some hF
                      have hq : some _ = some _ := hF
                      cases hq
                      exact en1
                    · refine st1 ?_
                      rw [fl_thalweglaw03_TowTruths_39, eg_thalweglaw03_TowTruths_39, ag_thalweglaw03_TowTruths_39]
                      (conv => arg 1; whnf)
                      refine st1 ?_
                      rcases e_bif hF with ⟨hb207, hF⟩ | ⟨hb207, hF⟩ <;> (first | rw [hb207] | (conv => arg 7; rw [hb207]) | (conv => arg 9; rw [hb207]))
                      · refine st1 ?_
                        have hF := e_some hF
                        have hq : some _ = some _ := hF
                        cases hq
                        exact en1
                      · refine st1 ?_
                        exact k_loopF (e_some hF) hx1 () [(0, _), (1, _), (2, _), (33, _), (34, _)] ⟨sT, sS, by rfl, by rfl⟩
                  · refine st1 ?_
                    (first | refine o_ib (eq_of_beq hb184) rfl ?_ | refine o_ibT (eq_of_beq hb184) rfl ?_ | refine o_ix (eq_of_beq hb184) rfl ?_ | refine o_ixT (eq_of_beq hb184) rfl ?_)
                    (conv => arg 1; whnf)
                    refine st1 ?_
                    (first | refine o_ib (eq_of_beq hb184) rfl ?_ | refine o_ibT (eq_of_beq hb184) rfl ?_ | refine o_ix (eq_of_beq hb184) rfl ?_ | refine o_ixT (eq_of_beq hb184) rfl ?_)
                    (conv => arg 1; whnf)
                    refine st1 ?_
                    obtain ⟨_, h, hF⟩ := e_bind hF
                    (first | refine o_ia (enc := eTRun) (s := 6) h (fun _ => rfl) (by decide) ?_ | refine o_iaT (enc := eTRun) (s := 6) h (fun _ => rfl) (by decide) ?_)
                    intro _
                    refine st1 ?_
                    (first | refine o_ib (eq_of_beq hb184) rfl ?_ | refine o_ibT (eq_of_beq hb184) rfl ?_ | refine o_ix (eq_of_beq hb184) rfl ?_ | refine o_ixT (eq_of_beq hb184) rfl ?_)
                    (conv => arg 1; whnf)
                    refine st1 ?_
                    obtain ⟨_, h, hF⟩ := e_bind hF
                    (first | refine o_ia (enc := eTRun) (s := 6) h (fun _ => rfl) (by decide) ?_ | refine o_iaT (enc := eTRun) (s := 6) h (fun _ => rfl) (by decide) ?_)
                    intro _
                    refine st1 ?_
                    rcases e_bif hF with ⟨hb208, hF⟩ | ⟨hb208, hF⟩ <;> (first | rw [hb208] | (conv => arg 7; rw [hb208]) | (conv => arg 9; rw [hb208]))
                    · refine st1 ?_
                      (first | refine o_ib (eq_of_beq hb184) rfl ?_ | refine o_ibT (eq_of_beq hb184) rfl ?_ | refine o_ix (eq_of_beq hb184) rfl ?_ | refine o_ixT (eq_of_beq hb184) rfl ?_)
                      (conv => arg 1; whnf)
                      refine st1 ?_
                      (first | refine o_ib (eq_of_beq hb184) rfl ?_ | refine o_ibT (eq_of_beq hb184) rfl ?_ | refine o_ix (eq_of_beq hb184) rfl ?_ | refine o_ixT (eq_of_beq hb184) rfl ?_)
                      (conv => arg 1; whnf)
                      refine st1 ?_
                      obtain ⟨_, h, hF⟩ := e_bind hF
                      (first | refine g_call h lv1 ?_ | refine g_callT h lv1 ?_)
                      (conv => arg 1; whnf)
                      refine st1 ?_
                      (first | refine o_ib (eq_of_beq hb184) rfl ?_ | refine o_ibT (eq_of_beq hb184) rfl ?_ | refine o_ix (eq_of_beq hb184) rfl ?_ | refine o_ixT (eq_of_beq hb184) rfl ?_)
                      (conv => arg 1; whnf)
                      refine st1 ?_
                      (first | refine o_ib (eq_of_beq hb184) rfl ?_ | refine o_ibT (eq_of_beq hb184) rfl ?_ | refine o_ix (eq_of_beq hb184) rfl ?_ | refine o_ixT (eq_of_beq hb184) rfl ?_)
                      (conv => arg 1; whnf)
                      refine st1 ?_
                      obtain ⟨_, h, hF⟩ := e_bind hF
                      (first | refine g_call h lv1 ?_ | refine g_callT h lv1 ?_)
                      (conv => arg 1; whnf)
                      refine st1 ?_
                      (first | refine o_ib (eq_of_beq hb184) rfl ?_ | refine o_ibT (eq_of_beq hb184) rfl ?_ | refine o_ix (eq_of_beq hb184) rfl ?_ | refine o_ixT (eq_of_beq hb184) rfl ?_)
                      (conv => arg 1; whnf)
                      refine st1 ?_
                      (first | refine o_ib (eq_of_beq hb184) rfl ?_ | refine o_ibT (eq_of_beq hb184) rfl ?_ | refine o_ix (eq_of_beq hb184) rfl ?_ | refine o_ixT (eq_of_beq hb184) rfl ?_)
                      (conv => arg 1; whnf)
                      refine st1 ?_
                      (first | refine o_ib (eq_of_beq hb184) rfl ?_ | refine o_ibT (eq_of_beq hb184) rfl ?_ | refine o_ix (eq_of_beq hb184) rfl ?_ | refine o_ixT (eq_of_beq hb184) rfl ?_)
                      (conv => arg 1; whnf)
                      refine st1 ?_
                      rcases e_bif hF with ⟨hb209, hF⟩ | ⟨hb209, hF⟩ <;> (first | rw [hb209] | (conv => arg 7; rw [hb209]) | (conv => arg 9; rw [hb209]))
                      · refine st1 ?_
                        have hF := e_some hF
                        have hq : some _ = some _ := hF
                        cases hq
                        exact en1
                      · refine st1 ?_
                        (first | refine o_ib (eq_of_beq hb184) rfl ?_ | refine o_ibT (eq_of_beq hb184) rfl ?_ | refine o_ix (eq_of_beq hb184) rfl ?_ | refine o_ixT (eq_of_beq hb184) rfl ?_)
                        (conv => arg 1; whnf)
                        refine st1 ?_
                        rcases e_bif hF with ⟨hb210, hF⟩ | ⟨hb210, hF⟩ <;> (first | rw [hb210] | (conv => arg 7; rw [hb210]) | (conv => arg 9; rw [hb210]))
                        · refine st1 ?_
                          have hF := e_some hF
                          have hq : some _ = some _ := hF
                          cases hq
                          exact en1
                        · refine st1 ?_
                          (first | refine o_ib (eq_of_beq hb184) rfl ?_ | refine o_ibT (eq_of_beq hb184) rfl ?_ | refine o_ix (eq_of_beq hb184) rfl ?_ | refine o_ixT (eq_of_beq hb184) rfl ?_)
                          (conv => arg 1; whnf)
                          refine st1 ?_
                          rcases e_bif hF with ⟨hb211, hF⟩ | ⟨hb211, hF⟩ <;> (first | rw [hb211] | (conv => arg 7; rw [hb211]) | (conv => arg 9; rw [hb211]))
                          · refine st1 ?_
                            have hF := e_some hF
                            have hq : some _ = some _ := hF
                            cases hq
                            exact en1
                          · refine st1 ?_
                            (first | refine o_ib (eq_of_beq hb184) rfl ?_ | refine o_ibT (eq_of_beq hb184) rfl ?_ | refine o_ix (eq_of_beq hb184) rfl ?_ | refine o_ixT (eq_of_beq hb184) rfl ?_)
                            (conv => arg 1; whnf)
                            refine st1 ?_
                            rcases e_bif hF with ⟨hb212, hF⟩ | ⟨hb212, hF⟩ <;> (first | rw [hb212] | (conv => arg 7; rw [hb212]) | (conv => arg 9; rw [hb212]))
                            · refine st1 ?_
                              have hF := e_some hF
                              have hq : some _ = some _ := hF
                              cases hq
                              exact en1
                            · refine st1 ?_
                              (first | refine o_ib (eq_of_beq hb184) rfl ?_ | refine o_ibT (eq_of_beq hb184) rfl ?_ | refine o_ix (eq_of_beq hb184) rfl ?_ | refine o_ixT (eq_of_beq hb184) rfl ?_)
                              (conv => arg 1; whnf)
                              refine st1 ?_
                              (first | refine o_ib (eq_of_beq hb184) rfl ?_ | refine o_ibT (eq_of_beq hb184) rfl ?_ | refine o_ix (eq_of_beq hb184) rfl ?_ | refine o_ixT (eq_of_beq hb184) rfl ?_)
                              (conv => arg 1; whnf)
                              refine st1 ?_
                              rcases e_bif hF with ⟨hb213, hF⟩ | ⟨hb213, hF⟩ <;> (first | rw [hb213] | (conv => arg 7; rw [hb213]) | (conv => arg 9; rw [hb213]))
                              · refine st1 ?_
                                have hF := e_some hF
                                have hq : some _ = some _ := hF
                                cases hq
                                exact en1
                              · refine st1 ?_
                                (first | refine o_ib (eq_of_beq hb184) rfl ?_ | refine o_ibT (eq_of_beq hb184) rfl ?_ | refine o_ix (eq_of_beq hb184) rfl ?_ | refine o_ixT (eq_of_beq hb184) rfl ?_)
                                (conv => arg 1; whnf)
                                refine st1 ?_
                                obtain ⟨_, h, hF⟩ := e_bind hF
                                (first | refine g_call h lv1 ?_ | refine g_callT h lv1 ?_)
                                (conv => arg 1; whnf)
                                refine st1 ?_
                                obtain ⟨_, h, hF⟩ := e_bind hF
                                (first | refine g_call h lv1 ?_ | refine g_callT h lv1 ?_)
                                (conv => arg 1; whnf)
                                refine st1 ?_
                                rcases e_bif hF with ⟨hb214, hF⟩ | ⟨hb214, hF⟩ <;> (first | rw [hb214] | (conv => arg 7; rw [hb214]) | (conv => arg 9; rw [hb214]))
                                · refine st1 ?_
                                  have hF := e_some hF
                                  have hq : some _ = some _ := hF
                                  cases hq
                                  exact en1
                                · refine st1 ?_
                                  rw [fl_thalweglaw03_TowTruths_39, eg_thalweglaw03_TowTruths_39, ag_thalweglaw03_TowTruths_39]
                                  (conv => arg 1; whnf)
                                  refine st1 ?_
                                  rcases e_bif hF with ⟨hb215, hF⟩ | ⟨hb215, hF⟩ <;> (first | rw [hb215] | (conv => arg 7; rw [hb215]) | (conv => arg 9; rw [hb215]))
                                  · refine st1 ?_
                                    have hF := e_some hF
                                    have hq : some _ = some _ := hF
                                    cases hq
                                    exact en1
                                  · refine st1 ?_
                                    exact k_loopF (e_some hF) hx1 () [(0, _), (1, _), (2, _), (33, _), (34, _)] ⟨sT, sS, by rfl, by rfl⟩
                    · refine st1 ?_
                      (first | refine o_ib (eq_of_beq hb184) rfl ?_ | refine o_ibT (eq_of_beq hb184) rfl ?_ | refine o_ix (eq_of_beq hb184) rfl ?_ | refine o_ixT (eq_of_beq hb184) rfl ?_)
                      (conv => arg 1; whnf)
                      refine st1 ?_
                      (first | refine o_ib (eq_of_beq hb184) rfl ?_ | refine o_ibT (eq_of_beq hb184) rfl ?_ | refine o_ix (eq_of_beq hb184) rfl ?_ | refine o_ixT (eq_of_beq hb184) rfl ?_)
                      (conv => arg 1; whnf)
                      refine st1 ?_
                      obtain ⟨_, h, hF⟩ := e_bind hF
                      (first | refine g_call h lv1 ?_ | refine g_callT h lv1 ?_)
                      (conv => arg 1; whnf)
                      refine st1 ?_
                      (first | refine o_ib (eq_of_beq hb184) rfl ?_ | refine o_ibT (eq_of_beq hb184) rfl ?_ | refine o_ix (eq_of_beq hb184) rfl ?_ | refine o_ixT (eq_of_beq hb184) rfl ?_)
                      (conv => arg 1; whnf)
                      refine st1 ?_
                      (first | refine o_ib (eq_of_beq hb184) rfl ?_ | refine o_ibT (eq_of_beq hb184) rfl ?_ | refine o_ix (eq_of_beq hb184) rfl ?_ | refine o_ixT (eq_of_beq hb184) rfl ?_)
                      (conv => arg 1; whnf)
                      refine st1 ?_
                      obtain ⟨_, h, hF⟩ := e_bind hF
                      (first | refine g_call h lv1 ?_ | refine g_callT h lv1 ?_)
                      (conv => arg 1; whnf)
                      refine st1 ?_
                      (first | refine o_ib (eq_of_beq hb184) rfl ?_ | refine o_ibT (eq_of_beq hb184) rfl ?_ | refine o_ix (eq_of_beq hb184) rfl ?_ | refine o_ixT (eq_of_beq hb184) rfl ?_)
                      (conv => arg 1; whnf)
                      refine st1 ?_
                      (first | refine o_ib (eq_of_beq hb184) rfl ?_ | refine o_ibT (eq_of_beq hb184) rfl ?_ | refine o_ix (eq_of_beq hb184) rfl ?_ | refine o_ixT (eq_of_beq hb184) rfl ?_)
                      (conv => arg 1; whnf)
                      refine st1 ?_
                      (first | refine o_ib (eq_of_beq hb184) rfl ?_ | refine o_ibT (eq_of_beq hb184) rfl ?_ | refine o_ix (eq_of_beq hb184) rfl ?_ | refine o_ixT (eq_of_beq hb184) rfl ?_)
                      (conv => arg 1; whnf)
                      refine st1 ?_
                      rcases e_bif hF with ⟨hb216, hF⟩ | ⟨hb216, hF⟩ <;> (first | rw [hb216] | (conv => arg 7; rw [hb216]) | (conv => arg 9; rw [hb216]))
                      · refine st1 ?_
                        have hF := e_some hF
                        have hq : some _ = some _ := hF
                        cases hq
                        exact en1
                      · refine st1 ?_
                        (first | refine o_ib (eq_of_beq hb184) rfl ?_ | refine o_ibT (eq_of_beq hb184) rfl ?_ | refine o_ix (eq_of_beq hb184) rfl ?_ | refine o_ixT (eq_of_beq hb184) rfl ?_)
                        (conv => arg 1; whnf)
                        refine st1 ?_
                        rcases e_bif hF with ⟨hb217, hF⟩ | ⟨hb217, hF⟩ <;> (first | rw [hb217] | (conv => arg 7; rw [hb217]) | (conv => arg 9; rw [hb217]))
                        · refine st1 ?_
                          have hF := e_some hF
                          have hq : some _ = some _ := hF
                          cases hq
                          exact en1
                        · refine st1 ?_
                          (first | refine o_ib (eq_of_beq hb184) rfl ?_ | refine o_ibT (eq_of_beq hb184) rfl ?_ | refine o_ix (eq_of_beq hb184) rfl ?_ | refine o_ixT (eq_of_beq hb184) rfl ?_)
                          (conv => arg 1; whnf)
                          refine st1 ?_
                          rcases e_bif hF with ⟨hb218, hF⟩ | ⟨hb218, hF⟩ <;> (first | rw [hb218] | (conv => arg 7; rw [hb218]) | (conv => arg 9; rw [hb218]))
                          · refine st1 ?_
                            have hF := e_some hF
                            have hq : some _ = some _ := hF
                            cases hq
                            exact en1
                          · refine st1 ?_
                            (first | refine o_ib (eq_of_beq hb184) rfl ?_ | refine o_ibT (eq_of_beq hb184) rfl ?_ | refine o_ix (eq_of_beq hb184) rfl ?_ | refine o_ixT (eq_of_beq hb184) rfl ?_)
                            (conv => arg 1; whnf)
                            refine st1 ?_
                            rcases e_bif hF with ⟨hb219, hF⟩ | ⟨hb219, hF⟩ <;> (first | rw [hb219] | (conv => arg 7; rw [hb219]) | (conv => arg 9; rw [hb219]))
                            · refine st1 ?_
                              have hF := e_some hF
                              have hq : some _ = some _ := hF
                              cases hq
                              exact en1
                            · refine st1 ?_
                              (first | refine o_ib (eq_of_beq hb184) rfl ?_ | refine o_ibT (eq_of_beq hb184) rfl ?_ | refine o_ix (eq_of_beq hb184) rfl ?_ | refine o_ixT (eq_of_beq hb184) rfl ?_)
                              (conv => arg 1; whnf)
                              refine st1 ?_
                              (first | refine o_ib (eq_of_beq hb184) rfl ?_ | refine o_ibT (eq_of_beq hb184) rfl ?_ | refine o_ix (eq_of_beq hb184) rfl ?_ | refine o_ixT (eq_of_beq hb184) rfl ?_)
                              (conv => arg 1; whnf)
                              refine st1 ?_
                              rcases e_bif hF with ⟨hb220, hF⟩ | ⟨hb220, hF⟩ <;> (first | rw [hb220] | (conv => arg 7; rw [hb220]) | (conv => arg 9; rw [hb220]))
                              · refine st1 ?_
                                have hF := e_some hF
                                have hq : some _ = some _ := hF
                                cases hq
                                exact en1
                              · refine st1 ?_
                                (first | refine o_ib (eq_of_beq hb184) rfl ?_ | refine o_ibT (eq_of_beq hb184) rfl ?_ | refine o_ix (eq_of_beq hb184) rfl ?_ | refine o_ixT (eq_of_beq hb184) rfl ?_)
                                (conv => arg 1; whnf)
                                refine st1 ?_
                                obtain ⟨_, h, hF⟩ := e_bind hF
                                (first | refine g_call h lv1 ?_ | refine g_callT h lv1 ?_)
                                (conv => arg 1; whnf)
                                refine st1 ?_
                                obtain ⟨_, h, hF⟩ := e_bind hF
                                (first | refine g_call h lv1 ?_ | refine g_callT h lv1 ?_)
                                (conv => arg 1; whnf)
                                refine st1 ?_
                                rcases e_bif hF with ⟨hb221, hF⟩ | ⟨hb221, hF⟩ <;> (first | rw [hb221] | (conv => arg 7; rw [hb221]) | (conv => arg 9; rw [hb221]))
                                · refine st1 ?_
                                  have hF := e_some hF
                                  have hq : some _ = some _ := hF
                                  cases hq
                                  exact en1
                                · refine st1 ?_
                                  rw [fl_thalweglaw03_TowTruths_39, eg_thalweglaw03_TowTruths_39, ag_thalweglaw03_TowTruths_39]
                                  (conv => arg 1; whnf)
                                  refine st1 ?_
                                  rcases e_bif hF with ⟨hb222, hF⟩ | ⟨hb222, hF⟩ <;> (first | rw [hb222] | (conv => arg 7; rw [hb222]) | (conv => arg 9; rw [hb222]))
                                  · refine st1 ?_
                                    have hF := e_some hF
                                    have hq : some _ = some _ := hF
                                    cases hq
                                    exact en1
                                  · refine st1 ?_
                                    exact k_loopF (e_some hF) hx1 () [(0, _), (1, _), (2, _), (33, _), (34, _)] ⟨sT, sS, by rfl, by rfl⟩
            · skip
              rcases e_bif hF with ⟨hb223, hF⟩ | ⟨hb223, hF⟩
              · skip
                (first | refine o_ib (eq_of_beq hb223) rfl ?_ | refine o_ibT (eq_of_beq hb223) rfl ?_ | refine o_ix (eq_of_beq hb223) rfl ?_ | refine o_ixT (eq_of_beq hb223) rfl ?_)
                (conv => arg 1; whnf)
                refine st1 ?_
                obtain ⟨_, h, hF⟩ := e_bind hF
                (first | refine g_call h lv1 ?_ | refine g_callT h lv1 ?_)
                (conv => arg 1; whnf)
                refine st1 ?_
                obtain ⟨_, h, hF⟩ := e_bind hF
                (first | refine g_call h lv1 ?_ | refine g_callT h lv1 ?_)
                (conv => arg 1; whnf)
                refine st1 ?_
                rcases e_bif hF with ⟨hb224, hF⟩ | ⟨hb224, hF⟩ <;> (first | rw [hb224] | (conv => arg 7; rw [hb224]) | (conv => arg 9; rw [hb224]))
                · refine st1 ?_
                  have hF := e_some hF
                  have hq : some _ = some _ := hF
                  cases hq
                  exact en1
                · refine st1 ?_
                  rcases e_bif hF with ⟨hb225, hF⟩ | ⟨hb225, hF⟩ <;> (first | rw [hb225] | (conv => arg 7; rw [hb225]) | (conv => arg 9; rw [hb225]))
                  · refine st1 ?_
                    rcases e_bif hF with ⟨hb226, hF⟩ | ⟨hb226, hF⟩ <;> (first | rw [hb226] | (conv => arg 7; rw [hb226]) | (conv => arg 9; rw [hb226]))
                    · refine st1 ?_
                      rw [fl_thalweglaw03_TowTruths_39, eg_thalweglaw03_TowTruths_39, ag_thalweglaw03_TowTruths_39]
                      (conv => arg 1; whnf)
                      refine st1 ?_
                      rcases e_bif hF with ⟨hb227, hF⟩ | ⟨hb227, hF⟩ <;> (first | rw [hb227] | (conv => arg 7; rw [hb227]) | (conv => arg 9; rw [hb227]))
                      · refine st1 ?_
                        have hF := e_some hF
                        have hq : some _ = some _ := hF
                        cases hq
                        exact en1
                      · refine st1 ?_
                        rw [fl_thalweglaw03_TowTruths_39, eg_thalweglaw03_TowTruths_39, ag_thalweglaw03_TowTruths_39]
                        (conv => arg 1; whnf)
                        refine st1 ?_
                        rcases e_bif hF with ⟨hb228, hF⟩ | ⟨hb228, hF⟩ <;> (first | rw [hb228] | (conv => arg 7; rw [hb228]) | (conv => arg 9; rw [hb228]))
                        · refine st1 ?_
                          have hF := e_some hF
                          have hq : some _ = some _ := hF
                          cases hq
                          exact en1
                        · refine st1 ?_
                          exact k_loopF (e_some hF) hx1 () [(0, _), (1, _), (2, _), (33, _), (34, _)] ⟨sT, sS, by rfl, by rfl⟩
                    · refine st1 ?_
                      (first | refine o_ib (eq_of_beq hb223) rfl ?_ | refine o_ibT (eq_of_beq hb223) rfl ?_ | refine o_ix (eq_of_beq hb223) rfl ?_ | refine o_ixT (eq_of_beq hb223) rfl ?_)
                      (conv => arg 1; whnf)
                      refine st1 ?_
                      (first | refine o_ib (eq_of_beq hb223) rfl ?_ | refine o_ibT (eq_of_beq hb223) rfl ?_ | refine o_ix (eq_of_beq hb223) rfl ?_ | refine o_ixT (eq_of_beq hb223) rfl ?_)
                      (conv => arg 1; whnf)
                      refine st1 ?_
                      obtain ⟨_, h, hF⟩ := e_bind hF
                      (first | refine o_ia (enc := eTRun) (s := 6) h (fun _ => rfl) (by decide) ?_ | refine o_iaT (enc := eTRun) (s := 6) h (fun _ => rfl) (by decide) ?_)
                      intro _
                      refine st1 ?_
                      (first | refine o_ib (eq_of_beq hb223) rfl ?_ | refine o_ibT (eq_of_beq hb223) rfl ?_ | refine o_ix (eq_of_beq hb223) rfl ?_ | refine o_ixT (eq_of_beq hb223) rfl ?_)
                      (conv => arg 1; whnf)
                      refine st1 ?_
                      obtain ⟨_, h, hF⟩ := e_bind hF
                      (first | refine o_ia (enc := eTRun) (s := 6) h (fun _ => rfl) (by decide) ?_ | refine o_iaT (enc := eTRun) (s := 6) h (fun _ => rfl) (by decide) ?_)
                      intro _
                      refine st1 ?_
                      rcases e_bif hF with ⟨hb229, hF⟩ | ⟨hb229, hF⟩ <;> (first | rw [hb229] | (conv => arg 7; rw [hb229]) | (conv => arg 9; rw [hb229]))
                      · refine st1 ?_
                        (first | refine o_ib (eq_of_beq hb223) rfl ?_ | refine o_ibT (eq_of_beq hb223) rfl ?_ | refine o_ix (eq_of_beq hb223) rfl ?_ | refine o_ixT (eq_of_beq hb223) rfl ?_)
                        (conv => arg 1; whnf)
                        refine st1 ?_
                        (first | refine o_ib (eq_of_beq hb223) rfl ?_ | refine o_ibT (eq_of_beq hb223) rfl ?_ | refine o_ix (eq_of_beq hb223) rfl ?_ | refine o_ixT (eq_of_beq hb223) rfl ?_)
                        (conv => arg 1; whnf)
                        refine st1 ?_
                        obtain ⟨_, h, hF⟩ := e_bind hF
                        (first | refine g_call h lv1 ?_ | refine g_callT h lv1 ?_)
                        (conv => arg 1; whnf)
                        refine st1 ?_
                        (first | refine o_ib (eq_of_beq hb223) rfl ?_ | refine o_ibT (eq_of_beq hb223) rfl ?_ | refine o_ix (eq_of_beq hb223) rfl ?_ | refine o_ixT (eq_of_beq hb223) rfl ?_)
                        (conv => arg 1; whnf)
                        refine st1 ?_
                        (first | refine o_ib (eq_of_beq hb223) rfl ?_ | refine o_ibT (eq_of_beq hb223) rfl ?_ | refine o_ix (eq_of_beq hb223) rfl ?_ | refine o_ixT (eq_of_beq hb223) rfl ?_)
                        (conv => arg 1; whnf)
                        refine st1 ?_
                        obtain ⟨_, h, hF⟩ := e_bind hF
                        (first | refine g_call h lv1 ?_ | refine g_callT h lv1 ?_)
                        (conv => arg 1; whnf)
                        refine st1 ?_
                        (first | refine o_ib (eq_of_beq hb223) rfl ?_ | refine o_ibT (eq_of_beq hb223) rfl ?_ | refine o_ix (eq_of_beq hb223) rfl ?_ | refine o_ixT (eq_of_beq hb223) rfl ?_)
                        (conv => arg 1; whnf)
                        refine st1 ?_
                        (first | refine o_ib (eq_of_beq hb223) rfl ?_ | refine o_ibT (eq_of_beq hb223) rfl ?_ | refine o_ix (eq_of_beq hb223) rfl ?_ | refine o_ixT (eq_of_beq hb223) rfl ?_)
                        (conv => arg 1; whnf)
                        refine st1 ?_
                        (first | refine o_ib (eq_of_beq hb223) rfl ?_ | refine o_ibT (eq_of_beq hb223) rfl ?_ | refine o_ix (eq_of_beq hb223) rfl ?_ | refine o_ixT (eq_of_beq hb223) rfl ?_)
                        (conv => arg 1; whnf)
                        refine st1 ?_
                        rcases e_bif hF with ⟨hb230, hF⟩ | ⟨hb230, hF⟩ <;> (first | rw [hb230] | (conv => arg 7; rw [hb230]) | (conv => arg 9; rw [hb230]))
                        · refine st1 ?_
                          have hF := e_some hF
                          have hq : some _ = some _ := hF
                          cases hq
                          exact en1
                        · refine st1 ?_
                          (first | refine o_ib (eq_of_beq hb223) rfl ?_ | refine o_ibT (eq_of_beq hb223) rfl ?_ | refine o_ix (eq_of_beq hb223) rfl ?_ | refine o_ixT (eq_of_beq hb223) rfl ?_)
                          (conv => arg 1; whnf)
                          refine st1 ?_
                          rcases e_bif hF with ⟨hb231, hF⟩ | ⟨hb231, hF⟩ <;> (first | rw [hb231] | (conv => arg 7; rw [hb231]) | (conv => arg 9; rw [hb231]))
                          · refine st1 ?_
                            have hF := e_some hF
                            have hq : some _ = some _ := hF
                            cases hq
                            exact en1
                          · refine st1 ?_
                            (first | refine o_ib (eq_of_beq hb223) rfl ?_ | refine o_ibT (eq_of_beq hb223) rfl ?_ | refine o_ix (eq_of_beq hb223) rfl ?_ | refine o_ixT (eq_of_beq hb223) rfl ?_)
                            (conv => arg 1; whnf)
                            refine st1 ?_
                            rcases e_bif hF with ⟨hb232, hF⟩ | ⟨hb232, hF⟩ <;> (first | rw [hb232] | (conv => arg 7; rw [hb232]) | (conv => arg 9; rw [hb232]))
                            · refine st1 ?_
                              have hF := e_some hF
                              have hq : some _ = some _ := hF
                              cases hq
                              exact en1
                            · refine st1 ?_
                              (first | refine o_ib (eq_of_beq hb223) rfl ?_ | refine o_ibT (eq_of_beq hb223) rfl ?_ | refine o_ix (eq_of_beq hb223) rfl ?_ | refine o_ixT (eq_of_beq hb223) rfl ?_)
                              (conv => arg 1; whnf)
                              refine st1 ?_
                              rcases e_bif hF with ⟨hb233, hF⟩ | ⟨hb233, hF⟩ <;> (first | rw [hb233] | (conv => arg 7; rw [hb233]) | (conv => arg 9; rw [hb233]))
                              · refine st1 ?_
                                have hF := e_some hF
                                have hq : some _ = some _ := hF
                                cases hq
                                exact en1
                              · refine st1 ?_
                                (first | refine o_ib (eq_of_beq hb223) rfl ?_ | refine o_ibT (eq_of_beq hb223) rfl ?_ | refine o_ix (eq_of_beq hb223) rfl ?_ | refine o_ixT (eq_of_beq hb223) rfl ?_)
                                (conv => arg 1; whnf)
                                refine st1 ?_
                                (first | refine o_ib (eq_of_beq hb223) rfl ?_ | refine o_ibT (eq_of_beq hb223) rfl ?_ | refine o_ix (eq_of_beq hb223) rfl ?_ | refine o_ixT (eq_of_beq hb223) rfl ?_)
                                (conv => arg 1; whnf)
                                refine st1 ?_
                                rcases e_bif hF with ⟨hb234, hF⟩ | ⟨hb234, hF⟩ <;> (first | rw [hb234] | (conv => arg 7; rw [hb234]) | (conv => arg 9; rw [hb234]))
                                · refine st1 ?_
                                  have hF := e_some hF
                                  have hq : some _ = some _ := hF
                                  cases hq
                                  exact en1
                                · refine st1 ?_
                                  (first | refine o_ib (eq_of_beq hb223) rfl ?_ | refine o_ibT (eq_of_beq hb223) rfl ?_ | refine o_ix (eq_of_beq hb223) rfl ?_ | refine o_ixT (eq_of_beq hb223) rfl ?_)
                                  (conv => arg 1; whnf)
                                  refine st1 ?_
                                  obtain ⟨_, h, hF⟩ := e_bind hF
                                  (first | refine g_call h lv1 ?_ | refine g_callT h lv1 ?_)
                                  (conv => arg 1; whnf)
                                  refine st1 ?_
                                  obtain ⟨_, h, hF⟩ := e_bind hF
                                  (first | refine g_call h lv1 ?_ | refine g_callT h lv1 ?_)
                                  (conv => arg 1; whnf)
                                  refine st1 ?_
                                  rcases e_bif hF with ⟨hb235, hF⟩ | ⟨hb235, hF⟩ <;> (first | rw [hb235] | (conv => arg 7; rw [hb235]) | (conv => arg 9; rw [hb235]))
                                  · refine st1 ?_
                                    have hF := e_some hF
                                    have hq : some _ = some _ := hF
                                    cases hq
                                    exact en1
                                  · refine st1 ?_
                                    rw [fl_thalweglaw03_TowTruths_39, eg_thalweglaw03_TowTruths_39, ag_thalweglaw03_TowTruths_39]
                                    (conv => arg 1; whnf)
                                    refine st1 ?_
                                    rcases e_bif hF with ⟨hb236, hF⟩ | ⟨hb236, hF⟩ <;> (first | rw [hb236] | (conv => arg 7; rw [hb236]) | (conv => arg 9; rw [hb236]))
                                    · refine st1 ?_
                                      have hF := e_some hF
                                      have hq : some _ = some _ := hF
                                      cases hq
                                      exact en1
                                    · refine st1 ?_
                                      exact k_loopF (e_some hF) hx1 () [(0, _), (1, _), (2, _), (33, _), (34, _)] ⟨sT, sS, by rfl, by rfl⟩
                      · refine st1 ?_
                        (first | refine o_ib (eq_of_beq hb223) rfl ?_ | refine o_ibT (eq_of_beq hb223) rfl ?_ | refine o_ix (eq_of_beq hb223) rfl ?_ | refine o_ixT (eq_of_beq hb223) rfl ?_)
                        (conv => arg 1; whnf)
                        refine st1 ?_
                        (first | refine o_ib (eq_of_beq hb223) rfl ?_ | refine o_ibT (eq_of_beq hb223) rfl ?_ | refine o_ix (eq_of_beq hb223) rfl ?_ | refine o_ixT (eq_of_beq hb223) rfl ?_)
                        (conv => arg 1; whnf)
                        refine st1 ?_
                        obtain ⟨_, h, hF⟩ := e_bind hF
                        (first | refine g_call h lv1 ?_ | refine g_callT h lv1 ?_)
                        (conv => arg 1; whnf)
                        refine st1 ?_
                        (first | refine o_ib (eq_of_beq hb223) rfl ?_ | refine o_ibT (eq_of_beq hb223) rfl ?_ | refine o_ix (eq_of_beq hb223) rfl ?_ | refine o_ixT (eq_of_beq hb223) rfl ?_)
                        (conv => arg 1; whnf)
                        refine st1 ?_
                        (first | refine o_ib (eq_of_beq hb223) rfl ?_ | refine o_ibT (eq_of_beq hb223) rfl ?_ | refine o_ix (eq_of_beq hb223) rfl ?_ | refine o_ixT (eq_of_beq hb223) rfl ?_)
                        (conv => arg 1; whnf)
                        refine st1 ?_
                        obtain ⟨_, h, hF⟩ := e_bind hF
                        (first | refine g_call h lv1 ?_ | refine g_callT h lv1 ?_)
                        (conv => arg 1; whnf)
                        refine st1 ?_
                        (first | refine o_ib (eq_of_beq hb223) rfl ?_ | refine o_ibT (eq_of_beq hb223) rfl ?_ | refine o_ix (eq_of_beq hb223) rfl ?_ | refine o_ixT (eq_of_beq hb223) rfl ?_)
                        (conv => arg 1; whnf)
                        refine st1 ?_
                        (first | refine o_ib (eq_of_beq hb223) rfl ?_ | refine o_ibT (eq_of_beq hb223) rfl ?_ | refine o_ix (eq_of_beq hb223) rfl ?_ | refine o_ixT (eq_of_beq hb223) rfl ?_)
                        (conv => arg 1; whnf)
                        refine st1 ?_
                        (first | refine o_ib (eq_of_beq hb223) rfl ?_ | refine o_ibT (eq_of_beq hb223) rfl ?_ | refine o_ix (eq_of_beq hb223) rfl ?_ | refine o_ixT (eq_of_beq hb223) rfl ?_)
                        (conv => arg 1; whnf)
                        refine st1 ?_
                        rcases e_bif hF with ⟨hb237, hF⟩ | ⟨hb237, hF⟩ <;> (first | rw [hb237] | (conv => arg 7; rw [hb237]) | (conv => arg 9; rw [hb237]))
                        · refine st1 ?_
                          have hF := e_some hF
                          have hq : some _ = some _ := hF
                          cases hq
                          exact en1
                        · refine st1 ?_
                          (first | refine o_ib (eq_of_beq hb223) rfl ?_ | refine o_ibT (eq_of_beq hb223) rfl ?_ | refine o_ix (eq_of_beq hb223) rfl ?_ | refine o_ixT (eq_of_beq hb223) rfl ?_)
                          (conv => arg 1; whnf)
                          refine st1 ?_
                          rcases e_bif hF with ⟨hb238, hF⟩ | ⟨hb238, hF⟩ <;> (first | rw [hb238] | (conv => arg 7; rw [hb238]) | (conv => arg 9; rw [hb238]))
                          · refine st1 ?_
                            have hF := e_some hF
                            have hq : some _ = some _ := hF
                            cases hq
                            exact en1
                          · refine st1 ?_
                            (first | refine o_ib (eq_of_beq hb223) rfl ?_ | refine o_ibT (eq_of_beq hb223) rfl ?_ | refine o_ix (eq_of_beq hb223) rfl ?_ | refine o_ixT (eq_of_beq hb223) rfl ?_)
                            (conv => arg 1; whnf)
                            refine st1 ?_
                            rcases e_bif hF with ⟨hb239, hF⟩ | ⟨hb239, hF⟩ <;> (first | rw [hb239] | (conv => arg 7; rw [hb239]) | (conv => arg 9; rw [hb239]))
                            · refine st1 ?_
                              have hF := e_some hF
                              have hq : some _ = some _ := hF
                              cases hq
                              exact en1
                            · refine st1 ?_
                              (first | refine o_ib (eq_of_beq hb223) rfl ?_ | refine o_ibT (eq_of_beq hb223) rfl ?_ | refine o_ix (eq_of_beq hb223) rfl ?_ | refine o_ixT (eq_of_beq hb223) rfl ?_)
                              (conv => arg 1; whnf)
                              refine st1 ?_
                              rcases e_bif hF with ⟨hb240, hF⟩ | ⟨hb240, hF⟩ <;> (first | rw [hb240] | (conv => arg 7; rw [hb240]) | (conv => arg 9; rw [hb240]))
                              · refine st1 ?_
                                have hF := e_some hF
                                have hq : some _ = some _ := hF
                                cases hq
                                exact en1
                              · refine st1 ?_
                                (first | refine o_ib (eq_of_beq hb223) rfl ?_ | refine o_ibT (eq_of_beq hb223) rfl ?_ | refine o_ix (eq_of_beq hb223) rfl ?_ | refine o_ixT (eq_of_beq hb223) rfl ?_)
                                (conv => arg 1; whnf)
                                refine st1 ?_
                                (first | refine o_ib (eq_of_beq hb223) rfl ?_ | refine o_ibT (eq_of_beq hb223) rfl ?_ | refine o_ix (eq_of_beq hb223) rfl ?_ | refine o_ixT (eq_of_beq hb223) rfl ?_)
                                (conv => arg 1; whnf)
                                refine st1 ?_
                                rcases e_bif hF with ⟨hb241, hF⟩ | ⟨hb241, hF⟩ <;> (first | rw [hb241] | (conv => arg 7; rw [hb241]) | (conv => arg 9; rw [hb241]))
                                · refine st1 ?_
                                  have hF := e_some hF
                                  have hq : some _ = some _ := hF
                                  cases hq
                                  exact en1
                                · refine st1 ?_
                                  (first | refine o_ib (eq_of_beq hb223) rfl ?_ | refine o_ibT (eq_of_beq hb223) rfl ?_ | refine o_ix (eq_of_beq hb223) rfl ?_ | refine o_ixT (eq_of_beq hb223) rfl ?_)
                                  (conv => arg 1; whnf)
                                  refine st1 ?_
                                  obtain ⟨_, h, hF⟩ := e_bind hF
                                  (first | refine g_call h lv1 ?_ | refine g_callT h lv1 ?_)
                                  (conv => arg 1; whnf)
                                  refine st1 ?_
                                  obtain ⟨_, h, hF⟩ := e_bind hF
                                  (first | refine g_call h lv1 ?_ | refine g_callT h lv1 ?_)
                                  (conv => arg 1; whnf)
                                  refine st1 ?_
                                  rcases e_bif hF with ⟨hb242, hF⟩ | ⟨hb242, hF⟩ <;> (first | rw [hb242] | (conv => arg 7; rw [hb242]) | (conv => arg 9; rw [hb242]))
                                  · refine st1 ?_
                                    have hF := e_some hF
                                    have hq : some _ = some _ := hF
                                    cases hq
                                    exact en1
                                  · refine st1 ?_
                                    rw [fl_thalweglaw03_TowTruths_39, eg_thalweglaw03_TowTruths_39, ag_thalweglaw03_TowTruths_39]
                                    (conv => arg 1; whnf)
                                    refine st1 ?_
                                    rcases e_bif hF with ⟨hb243, hF⟩ | ⟨hb243, hF⟩ <;> (first | rw [hb243] | (conv => arg 7; rw [hb243]) | (conv => arg 9; rw [hb243]))
                                    · refine st1 ?_
                                      have hF := e_some hF
                                      have hq : some _ = some _ := hF
                                      cases hq
                                      exact en1
                                    · refine st1 ?_
                                      exact k_loopF (e_some hF) hx1 () [(0, _), (1, _), (2, _), (33, _), (34, _)] ⟨sT, sS, by rfl, by rfl⟩
                  · refine st1 ?_
                    rcases e_bif hF with ⟨hb244, hF⟩ | ⟨hb244, hF⟩ <;> (first | rw [hb244] | (conv => arg 7; rw [hb244]) | (conv => arg 9; rw [hb244]))
                    · refine st1 ?_
                      rw [fl_thalweglaw03_TowTruths_39, eg_thalweglaw03_TowTruths_39, ag_thalweglaw03_TowTruths_39]
                      (conv => arg 1; whnf)
                      refine st1 ?_
                      rcases e_bif hF with ⟨hb245, hF⟩ | ⟨hb245, hF⟩ <;> (first | rw [hb245] | (conv => arg 7; rw [hb245]) | (conv => arg 9; rw [hb245]))
                      · refine st1 ?_
                        have hF := e_some hF
                        have hq : some _ = some _ := hF
                        cases hq
                        exact en1
                      · refine st1 ?_
                        rw [fl_thalweglaw03_TowTruths_39, eg_thalweglaw03_TowTruths_39, ag_thalweglaw03_TowTruths_39]
                        (conv => arg 1; whnf)
                        refine st1 ?_
                        rcases e_bif hF with ⟨hb246, hF⟩ | ⟨hb246, hF⟩ <;> (first | rw [hb246] | (conv => arg 7; rw [hb246]) | (conv => arg 9; rw [hb246]))
                        · refine st1 ?_
                          have hF := e_some hF
                          have hq : some _ = some _ := hF
                          cases hq
                          exact en1
                        · refine st1 ?_
                          exact k_loopF (e_some hF) hx1 () [(0, _), (1, _), (2, _), (33, _), (34, _)] ⟨sT, sS, by rfl, by rfl⟩
                    · refine st1 ?_
                      (first | refine o_ib (eq_of_beq hb223) rfl ?_ | refine o_ibT (eq_of_beq hb223) rfl ?_ | refine o_ix (eq_of_beq hb223) rfl ?_ | refine o_ixT (eq_of_beq hb223) rfl ?_)
                      (conv => arg 1; whnf)
                      refine st1 ?_
                      (first | refine o_ib (eq_of_beq hb223) rfl ?_ | refine o_ibT (eq_of_beq hb223) rfl ?_ | refine o_ix (eq_of_beq hb223) rfl ?_ | refine o_ixT (eq_of_beq hb223) rfl ?_)
                      (conv => arg 1; whnf)
                      refine st1 ?_
                      obtain ⟨_, h, hF⟩ := e_bind hF
                      (first | refine o_ia (enc := eTRun) (s := 6) h (fun _ => rfl) (by decide) ?_ | refine o_iaT (enc := eTRun) (s := 6) h (fun _ => rfl) (by decide) ?_)
                      intro _
                      refine st1 ?_
                      (first | refine o_ib (eq_of_beq hb223) rfl ?_ | refine o_ibT (eq_of_beq hb223) rfl ?_ | refine o_ix (eq_of_beq hb223) rfl ?_ | refine o_ixT (eq_of_beq hb223) rfl ?_)
                      (conv => arg 1; whnf)
                      refine st1 ?_
                      obtain ⟨_, h, hF⟩ := e_bind hF
                      (first | refine o_ia (enc := eTRun) (s := 6) h (fun _ => rfl) (by decide) ?_ | refine o_iaT (enc := eTRun) (s := 6) h (fun _ => rfl) (by decide) ?_)
                      intro _
                      refine st1 ?_
                      rcases e_bif hF with ⟨hb247, hF⟩ | ⟨hb247, hF⟩ <;> (first | rw [hb247] | (conv => arg 7; rw [hb247]) | (conv => arg 9; rw [hb247]))
                      · refine st1 ?_
                        (first | refine o_ib (eq_of_beq hb223) rfl ?_ | refine o_ibT (eq_of_beq hb223) rfl ?_ | refine o_ix (eq_of_beq hb223) rfl ?_ | refine o_ixT (eq_of_beq hb223) rfl ?_)
                        (conv => arg 1; whnf)
                        refine st1 ?_
                        (first | refine o_ib (eq_of_beq hb223) rfl ?_ | refine o_ibT (eq_of_beq hb223) rfl ?_ | refine o_ix (eq_of_beq hb223) rfl ?_ | refine o_ixT (eq_of_beq hb223) rfl ?_)
                        (conv => arg 1; whnf)
                        refine st1 ?_
                        obtain ⟨_, h, hF⟩ := e_bind hF
                        (first | refine g_call h lv1 ?_ | refine g_callT h lv1 ?_)
                        (conv => arg 1; whnf)
                        refine st1 ?_
                        (first | refine o_ib (eq_of_beq hb223) rfl ?_ | refine o_ibT (eq_of_beq hb223) rfl ?_ | refine o_ix (eq_of_beq hb223) rfl ?_ | refine o_ixT (eq_of_beq hb223) rfl ?_)
                        (conv => arg 1; whnf)
                        refine st1 ?_
                        (first | refine o_ib (eq_of_beq hb223) rfl ?_ | refine o_ibT (eq_of_beq hb223) rfl ?_ | refine o_ix (eq_of_beq hb223) rfl ?_ | refine o_ixT (eq_of_beq hb223) rfl ?_)
                        (conv => arg 1; whnf)
                        refine st1 ?_
                        obtain ⟨_, h, hF⟩ := e_bind hF
                        (first | refine g_call h lv1 ?_ | refine g_callT h lv1 ?_)
                        (conv => arg 1; whnf)
                        refine st1 ?_
                        (first | refine o_ib (eq_of_beq hb223) rfl ?_ | refine o_ibT (eq_of_beq hb223) rfl ?_ | refine o_ix (eq_of_beq hb223) rfl ?_ | refine o_ixT (eq_of_beq hb223) rfl ?_)
                        (conv => arg 1; whnf)
                        refine st1 ?_
                        (first | refine o_ib (eq_of_beq hb223) rfl ?_ | refine o_ibT (eq_of_beq hb223) rfl ?_ | refine o_ix (eq_of_beq hb223) rfl ?_ | refine o_ixT (eq_of_beq hb223) rfl ?_)
                        (conv => arg 1; whnf)
                        refine st1 ?_
                        (first | refine o_ib (eq_of_beq hb223) rfl ?_ | refine o_ibT (eq_of_beq hb223) rfl ?_ | refine o_ix (eq_of_beq hb223) rfl ?_ | refine o_ixT (eq_of_beq hb223) rfl ?_)
                        (conv => arg 1; whnf)
                        refine st1 ?_
                        rcases e_bif hF with ⟨hb248, hF⟩ | ⟨hb248, hF⟩ <;> (first | rw [hb248] | (conv => arg 7; rw [hb248]) | (conv => arg 9; rw [hb248]))
                        · refine st1 ?_
                          have hF := e_some hF
                          have hq : some _ = some _ := hF
                          cases hq
                          exact en1
                        · refine st1 ?_
                          (first | refine o_ib (eq_of_beq hb223) rfl ?_ | refine o_ibT (eq_of_beq hb223) rfl ?_ | refine o_ix (eq_of_beq hb223) rfl ?_ | refine o_ixT (eq_of_beq hb223) rfl ?_)
                          (conv => arg 1; whnf)
                          refine st1 ?_
                          rcases e_bif hF with ⟨hb249, hF⟩ | ⟨hb249, hF⟩ <;> (first | rw [hb249] | (conv => arg 7; rw [hb249]) | (conv => arg 9; rw [hb249]))
                          · refine st1 ?_
                            have hF := e_some hF
                            have hq : some _ = some _ := hF
                            cases hq
                            exact en1
                          · refine st1 ?_
                            (first | refine o_ib (eq_of_beq hb223) rfl ?_ | refine o_ibT (eq_of_beq hb223) rfl ?_ | refine o_ix (eq_of_beq hb223) rfl ?_ | refine o_ixT (eq_of_beq hb223) rfl ?_)
                            (conv => arg 1; whnf)
                            refine st1 ?_
                            rcases e_bif hF with ⟨hb250, hF⟩ | ⟨hb250, hF⟩ <;> (first | rw [hb250] | (conv => arg 7; rw [hb250]) | (conv => arg 9; rw [hb250]))
                            · refine st1 ?_
                              have hF := e_some hF
                              have hq : some _ = some _ := hF
                              cases hq
                              exact en1
                            · refine st1 ?_
                              (first | refine o_ib (eq_of_beq hb223) rfl ?_ | refine o_ibT (eq_of_beq hb223) rfl ?_ | refine o_ix (eq_of_beq hb223) rfl ?_ | refine o_ixT (eq_of_beq hb223) rfl ?_)
                              (conv => arg 1; whnf)
                              refine st1 ?_
                              rcases e_bif hF with ⟨hb251, hF⟩ | ⟨hb251, hF⟩ <;> (first | rw [hb251] | (conv => arg 7; rw [hb251]) | (conv => arg 9; rw [hb251]))
                              · refine st1 ?_
                                have hF := e_some hF
                                have hq : some _ = some _ := hF
                                cases hq
                                exact en1
                              · refine st1 ?_
                                (first | refine o_ib (eq_of_beq hb223) rfl ?_ | refine o_ibT (eq_of_beq hb223) rfl ?_ | refine o_ix (eq_of_beq hb223) rfl ?_ | refine o_ixT (eq_of_beq hb223) rfl ?_)
                                (conv => arg 1; whnf)
                                refine st1 ?_
                                (first | refine o_ib (eq_of_beq hb223) rfl ?_ | refine o_ibT (eq_of_beq hb223) rfl ?_ | refine o_ix (eq_of_beq hb223) rfl ?_ | refine o_ixT (eq_of_beq hb223) rfl ?_)
                                (conv => arg 1; whnf)
                                refine st1 ?_
                                rcases e_bif hF with ⟨hb252, hF⟩ | ⟨hb252, hF⟩ <;> (first | rw [hb252] | (conv => arg 7; rw [hb252]) | (conv => arg 9; rw [hb252]))
                                · refine st1 ?_
                                  have hF := e_some hF
                                  have hq : some _ = some _ := hF
                                  cases hq
                                  exact en1
                                · refine st1 ?_
                                  (first | refine o_ib (eq_of_beq hb223) rfl ?_ | refine o_ibT (eq_of_beq hb223) rfl ?_ | refine o_ix (eq_of_beq hb223) rfl ?_ | refine o_ixT (eq_of_beq hb223) rfl ?_)
                                  (conv => arg 1; whnf)
                                  refine st1 ?_
                                  obtain ⟨_, h, hF⟩ := e_bind hF
                                  (first | refine g_call h lv1 ?_ | refine g_callT h lv1 ?_)
                                  (conv => arg 1; whnf)
                                  refine st1 ?_
                                  obtain ⟨_, h, hF⟩ := e_bind hF
                                  (first | refine g_call h lv1 ?_ | refine g_callT h lv1 ?_)
                                  (conv => arg 1; whnf)
                                  refine st1 ?_
                                  rcases e_bif hF with ⟨hb253, hF⟩ | ⟨hb253, hF⟩ <;> (first | rw [hb253] | (conv => arg 7; rw [hb253]) | (conv => arg 9; rw [hb253]))
                                  · refine st1 ?_
                                    have hF := e_some hF
                                    have hq : some _ = some _ := hF
                                    cases hq
                                    exact en1
                                  · refine st1 ?_
                                    rw [fl_thalweglaw03_TowTruths_39, eg_thalweglaw03_TowTruths_39, ag_thalweglaw03_TowTruths_39]
                                    (conv => arg 1; whnf)
                                    refine st1 ?_
                                    rcases e_bif hF with ⟨hb254, hF⟩ | ⟨hb254, hF⟩ <;> (first | rw [hb254] | (conv => arg 7; rw [hb254]) | (conv => arg 9; rw [hb254]))
                                    · refine st1 ?_
                                      have hF := e_some hF
                                      have hq : some _ = some _ := hF
                                      cases hq
                                      exact en1
                                    · refine st1 ?_
                                      exact k_loopF (e_some hF) hx1 () [(0, _), (1, _), (2, _), (33, _), (34, _)] ⟨sT, sS, by rfl, by rfl⟩
                      · refine st1 ?_
                        (first | refine o_ib (eq_of_beq hb223) rfl ?_ | refine o_ibT (eq_of_beq hb223) rfl ?_ | refine o_ix (eq_of_beq hb223) rfl ?_ | refine o_ixT (eq_of_beq hb223) rfl ?_)
                        (conv => arg 1; whnf)
                        refine st1 ?_
                        (first | refine o_ib (eq_of_beq hb223) rfl ?_ | refine o_ibT (eq_of_beq hb223) rfl ?_ | refine o_ix (eq_of_beq hb223) rfl ?_ | refine o_ixT (eq_of_beq hb223) rfl ?_)
                        (conv => arg 1; whnf)
                        refine st1 ?_
                        obtain ⟨_, h, hF⟩ := e_bind hF
                        (first | refine g_call h lv1 ?_ | refine g_callT h lv1 ?_)
                        (conv => arg 1; whnf)
                        refine st1 ?_
                        (first | refine o_ib (eq_of_beq hb223) rfl ?_ | refine o_ibT (eq_of_beq hb223) rfl ?_ | refine o_ix (eq_of_beq hb223) rfl ?_ | refine o_ixT (eq_of_beq hb223) rfl ?_)
                        (conv => arg 1; whnf)
                        refine st1 ?_
                        (first | refine o_ib (eq_of_beq hb223) rfl ?_ | refine o_ibT (eq_of_beq hb223) rfl ?_ | refine o_ix (eq_of_beq hb223) rfl ?_ | refine o_ixT (eq_of_beq hb223) rfl ?_)
                        (conv => arg 1; whnf)
                        refine st1 ?_
                        obtain ⟨_, h, hF⟩ := e_bind hF
                        (first | refine g_call h lv1 ?_ | refine g_callT h lv1 ?_)
                        (conv => arg 1; whnf)
                        refine st1 ?_
                        (first | refine o_ib (eq_of_beq hb223) rfl ?_ | refine o_ibT (eq_of_beq hb223) rfl ?_ | refine o_ix (eq_of_beq hb223) rfl ?_ | refine o_ixT (eq_of_beq hb223) rfl ?_)
                        (conv => arg 1; whnf)
                        refine st1 ?_
                        (first | refine o_ib (eq_of_beq hb223) rfl ?_ | refine o_ibT (eq_of_beq hb223) rfl ?_ | refine o_ix (eq_of_beq hb223) rfl ?_ | refine o_ixT (eq_of_beq hb223) rfl ?_)
                        (conv => arg 1; whnf)
                        refine st1 ?_
                        (first | refine o_ib (eq_of_beq hb223) rfl ?_ | refine o_ibT (eq_of_beq hb223) rfl ?_ | refine o_ix (eq_of_beq hb223) rfl ?_ | refine o_ixT (eq_of_beq hb223) rfl ?_)
                        (conv => arg 1; whnf)
                        refine st1 ?_
                        rcases e_bif hF with ⟨hb255, hF⟩ | ⟨hb255, hF⟩ <;> (first | rw [hb255] | (conv => arg 7; rw [hb255]) | (conv => arg 9; rw [hb255]))
                        · refine st1 ?_
                          have hF := e_some hF
                          have hq : some _ = some _ := hF
                          cases hq
                          exact en1
                        · refine st1 ?_
                          (first | refine o_ib (eq_of_beq hb223) rfl ?_ | refine o_ibT (eq_of_beq hb223) rfl ?_ | refine o_ix (eq_of_beq hb223) rfl ?_ | refine o_ixT (eq_of_beq hb223) rfl ?_)
                          (conv => arg 1; whnf)
                          refine st1 ?_
                          rcases e_bif hF with ⟨hb256, hF⟩ | ⟨hb256, hF⟩ <;> (first | rw [hb256] | (conv => arg 7; rw [hb256]) | (conv => arg 9; rw [hb256]))
                          · refine st1 ?_
                            have hF := e_some hF
                            have hq : some _ = some _ := hF
                            cases hq
                            exact en1
                          · refine st1 ?_
                            (first | refine o_ib (eq_of_beq hb223) rfl ?_ | refine o_ibT (eq_of_beq hb223) rfl ?_ | refine o_ix (eq_of_beq hb223) rfl ?_ | refine o_ixT (eq_of_beq hb223) rfl ?_)
                            (conv => arg 1; whnf)
                            refine st1 ?_
                            rcases e_bif hF with ⟨hb257, hF⟩ | ⟨hb257, hF⟩ <;> (first | rw [hb257] | (conv => arg 7; rw [hb257]) | (conv => arg 9; rw [hb257]))
                            · refine st1 ?_
                              have hF := e_some hF
                              have hq : some _ = some _ := hF
                              cases hq
                              exact en1
                            · refine st1 ?_
                              (first | refine o_ib (eq_of_beq hb223) rfl ?_ | refine o_ibT (eq_of_beq hb223) rfl ?_ | refine o_ix (eq_of_beq hb223) rfl ?_ | refine o_ixT (eq_of_beq hb223) rfl ?_)
                              (conv => arg 1; whnf)
                              refine st1 ?_
                              rcases e_bif hF with ⟨hb258, hF⟩ | ⟨hb258, hF⟩ <;> (first | rw [hb258] | (conv => arg 7; rw [hb258]) | (conv => arg 9; rw [hb258]))
                              · refine st1 ?_
                                have hF := e_some hF
                                have hq : some _ = some _ := hF
                                cases hq
                                exact en1
                              · refine st1 ?_
                                (first | refine o_ib (eq_of_beq hb223) rfl ?_ | refine o_ibT (eq_of_beq hb223) rfl ?_ | refine o_ix (eq_of_beq hb223) rfl ?_ | refine o_ixT (eq_of_beq hb223) rfl ?_)
                                (conv => arg 1; whnf)
                                refine st1 ?_
                                (first | refine o_ib (eq_of_beq hb223) rfl ?_ | refine o_ibT (eq_of_beq hb223) rfl ?_ | refine o_ix (eq_of_beq hb223) rfl ?_ | refine o_ixT (eq_of_beq hb223) rfl ?_)
                                (conv => arg 1; whnf)
                                refine st1 ?_
                                rcases e_bif hF with ⟨hb259, hF⟩ | ⟨hb259, hF⟩ <;> (first | rw [hb259] | (conv => arg 7; rw [hb259]) | (conv => arg 9; rw [hb259]))
                                · refine st1 ?_
                                  have hF := e_some hF
                                  have hq : some _ = some _ := hF
                                  cases hq
                                  exact en1
                                · refine st1 ?_
                                  (first | refine o_ib (eq_of_beq hb223) rfl ?_ | refine o_ibT (eq_of_beq hb223) rfl ?_ | refine o_ix (eq_of_beq hb223) rfl ?_ | refine o_ixT (eq_of_beq hb223) rfl ?_)
                                  (conv => arg 1; whnf)
                                  refine st1 ?_
                                  obtain ⟨_, h, hF⟩ := e_bind hF
                                  (first | refine g_call h lv1 ?_ | refine g_callT h lv1 ?_)
                                  (conv => arg 1; whnf)
                                  refine st1 ?_
                                  obtain ⟨_, h, hF⟩ := e_bind hF
                                  (first | refine g_call h lv1 ?_ | refine g_callT h lv1 ?_)
                                  (conv => arg 1; whnf)
                                  refine st1 ?_
                                  rcases e_bif hF with ⟨hb260, hF⟩ | ⟨hb260, hF⟩ <;> (first | rw [hb260] | (conv => arg 7; rw [hb260]) | (conv => arg 9; rw [hb260]))
                                  · refine st1 ?_
                                    have hF := e_some hF
                                    have hq : some _ = some _ := hF
                                    cases hq
                                    exact en1
                                  · refine st1 ?_
                                    rw [fl_thalweglaw03_TowTruths_39, eg_thalweglaw03_TowTruths_39, ag_thalweglaw03_TowTruths_39]
                                    (conv => arg 1; whnf)
                                    refine st1 ?_
                                    rcases e_bif hF with ⟨hb261, hF⟩ | ⟨hb261, hF⟩ <;> (first | rw [hb261] | (conv => arg 7; rw [hb261]) | (conv => arg 9; rw [hb261]))
                                    · refine st1 ?_
                                      have hF := e_some hF
                                      have hq : some _ = some _ := hF
                                      cases hq
                                      exact en1
                                    · refine st1 ?_
                                      exact k_loopF (e_some hF) hx1 () [(0, _), (1, _), (2, _), (33, _), (34, _)] ⟨sT, sS, by rfl, by rfl⟩
              · skip
                (first | cases hF | simp at hF)
          · refine st1 ?_
            have hF := e_some hF
            rcases e_bif hF with ⟨hb262, hF⟩ | ⟨hb262, hF⟩ <;> (first | rw [hb262] | (conv => arg 7; rw [hb262]) | (conv => arg 9; rw [hb262]))
            · refine st1 ?_
              rcases e_bif hF with ⟨hb263, hF⟩ | ⟨hb263, hF⟩ <;> (first | rw [hb263] | (conv => arg 7; rw [hb263]) | (conv => arg 9; rw [hb263]))
              · refine st1 ?_
                rcases e_bif hF with ⟨hb264, hF⟩ | ⟨hb264, hF⟩ <;> (first | rw [hb264] | (conv => arg 7; rw [hb264]) | (conv => arg 9; rw [hb264]))
                · refine st1 ?_
                  obtain ⟨_, h, hF⟩ := e_bind hF
                  (first | refine g_call h lv1 ?_ | refine g_callT h lv1 ?_)
                  (conv => arg 1; whnf)
                  refine st1 ?_
                  have hq : some _ = some _ := hF
                  cases hq
                  exact en1
                · refine st1 ?_
                  have hq : some _ = some _ := hF
                  cases hq
                  exact en1
              · refine st1 ?_
                have hq : some _ = some _ := hF
                cases hq
                exact en1
            · refine st1 ?_
              rcases e_bif hF with ⟨hb265, hF⟩ | ⟨hb265, hF⟩ <;> (first | rw [hb265] | (conv => arg 7; rw [hb265]) | (conv => arg 9; rw [hb265]))
              · refine st1 ?_
                rcases e_bif hF with ⟨hb266, hF⟩ | ⟨hb266, hF⟩ <;> (first | rw [hb266] | (conv => arg 7; rw [hb266]) | (conv => arg 9; rw [hb266]))
                · refine st1 ?_
                  rcases e_bif hF with ⟨hb267, hF⟩ | ⟨hb267, hF⟩ <;> (first | rw [hb267] | (conv => arg 7; rw [hb267]) | (conv => arg 9; rw [hb267]))
                  · refine st1 ?_
                    obtain ⟨_, h, hF⟩ := e_bind hF
                    (first | refine g_call h lv1 ?_ | refine g_callT h lv1 ?_)
                    (conv => arg 1; whnf)
                    refine st1 ?_
                    have hq : some _ = some _ := hF
                    cases hq
                    exact en1
                  · refine st1 ?_
                    rcases e_bif hF with ⟨hb268, hF⟩ | ⟨hb268, hF⟩ <;> (first | rw [hb268] | (conv => arg 7; rw [hb268]) | (conv => arg 9; rw [hb268]))
                    · refine st1 ?_
                      obtain ⟨_, h, hF⟩ := e_bind hF
                      (first | refine g_call h lv1 ?_ | refine g_callT h lv1 ?_)
                      (conv => arg 1; whnf)
                      refine st1 ?_
                      have hq : some _ = some _ := hF
                      cases hq
                      exact en1
                    · refine st1 ?_
                      have hq : some _ = some _ := hF
                      cases hq
                      exact en1
                · refine st1 ?_
                  rcases e_bif hF with ⟨hb269, hF⟩ | ⟨hb269, hF⟩ <;> (first | rw [hb269] | (conv => arg 7; rw [hb269]) | (conv => arg 9; rw [hb269]))
                  · refine st1 ?_
                    rcases e_bif hF with ⟨hb270, hF⟩ | ⟨hb270, hF⟩ <;> (first | rw [hb270] | (conv => arg 7; rw [hb270]) | (conv => arg 9; rw [hb270]))
                    · refine st1 ?_
                      rcases e_bif hF with ⟨hb271, hF⟩ | ⟨hb271, hF⟩ <;> (first | rw [hb271] | (conv => arg 7; rw [hb271]) | (conv => arg 9; rw [hb271]))
                      · refine st1 ?_
                        obtain ⟨_, h, hF⟩ := e_bind hF
                        (first | refine g_call h lv1 ?_ | refine g_callT h lv1 ?_)
                        (conv => arg 1; whnf)
                        refine st1 ?_
                        have hq : some _ = some _ := hF
                        cases hq
                        exact en1
                      · refine st1 ?_
                        have hq : some _ = some _ := hF
                        cases hq
                        exact en1
                    · refine st1 ?_
                      rcases e_bif hF with ⟨hb272, hF⟩ | ⟨hb272, hF⟩ <;> (first | rw [hb272] | (conv => arg 7; rw [hb272]) | (conv => arg 9; rw [hb272]))
                      · refine st1 ?_
                        (first | rw [hb272] | (conv => arg 7; rw [hb272]) | (conv => arg 9; rw [hb272]))
                        refine st1 ?_
                        obtain ⟨_, h, hF⟩ := e_bind hF
                        (first | refine g_call h lv1 ?_ | refine g_callT h lv1 ?_)
                        (conv => arg 1; whnf)
                        refine st1 ?_
                        have hq : some _ = some _ := hF
                        cases hq
                        exact en1
                      · refine st1 ?_
                        have hq : some _ = some _ := hF
                        cases hq
                        exact en1
                  · refine st1 ?_
                    have hq : some _ = some _ := hF
                    cases hq
                    exact en1
              · refine st1 ?_
                rcases e_bif hF with ⟨hb273, hF⟩ | ⟨hb273, hF⟩ <;> (first | rw [hb273] | (conv => arg 7; rw [hb273]) | (conv => arg 9; rw [hb273]))
                · refine st1 ?_
                  rcases e_bif hF with ⟨hb274, hF⟩ | ⟨hb274, hF⟩ <;> (first | rw [hb274] | (conv => arg 7; rw [hb274]) | (conv => arg 9; rw [hb274]))
                  · refine st1 ?_
                    obtain ⟨_, h, hF⟩ := e_bind hF
                    (first | refine g_call h lv1 ?_ | refine g_callT h lv1 ?_)
                    (conv => arg 1; whnf)
                    refine st1 ?_
                    have hq : some _ = some _ := hF
                    cases hq
                    exact en1
                  · refine st1 ?_
                    have hq : some _ = some _ := hF
                    cases hq
                    exact en1
                · refine st1 ?_
                  rcases e_bif hF with ⟨hb275, hF⟩ | ⟨hb275, hF⟩ <;> (first | rw [hb275] | (conv => arg 7; rw [hb275]) | (conv => arg 9; rw [hb275]))
                  · refine st1 ?_
                    (first | rw [hb275] | (conv => arg 7; rw [hb275]) | (conv => arg 9; rw [hb275]))
                    refine st1 ?_
                    obtain ⟨_, h, hF⟩ := e_bind hF
                    (first | refine g_call h lv1 ?_ | refine g_callT h lv1 ?_)
                    (conv => arg 1; whnf)
                    refine st1 ?_
                    have hq : some _ = some _ := hF
                    cases hq
                    exact en1
                  · refine st1 ?_
                    have hq : some _ = some _ := hF
                    cases hq
                    exact en1


end Go.Ev
