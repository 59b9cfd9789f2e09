/- A part of the proof of TowConflicts. -/
import Derived.Test.YtignohgoodffbacW6
/- The functions do what is said. -/
set_option linter.unusedVariables false
set_option linter.unusedSimpArgs false
namespace Go.Ev
open Go.Proofs
set_option maxHeartbeats 8000000
set_option maxRecDepth 100000
@[reducible] noncomputable def c_thalwegref03_in : Con := conF F_thalwegref03_in (fun x => match x with | (a0, a1, a2) => [(V.v (.int .i64 (a0))), (V.v (.int .i64 (a1))), (V.v (.int .i64 (a2)))]) (fun r => (V.v (.bool (r))))
theorem h_thalwegref03_in : Has Try.prog 41 c_thalwegref03_in := by
  refine hasF ctx_nil mix Try.func41 rfl (by kernel_rfl) ?_
  rintro ⟨a0, a1, a2⟩ r hF
  refine ⟨of_decide_eq_true rfl, ?_⟩
  refine st1 ?_
  rcases e_bif hF with ⟨hb1, hF⟩ | ⟨hb1, hF⟩ <;> (first | rw [hb1] | (conv => arg 7; rw [hb1]) | (conv => arg 9; rw [hb1]))
  · refine st1 ?_
    have hq : some _ = some _ := hF
    cases hq
    exact en1
  · refine st1 ?_
    have hq : some _ = some _ := hF
    cases hq
    exact en1


@[reducible] noncomputable def c_thalwegref03_valid : Con := conF F_thalwegref03_valid (fun x => match x with | (a0, a1, a2) => [(V.agg (eTBounds a0)), (V.v (.int .i64 (a1))), (V.v (.int .i64 (a2)))]) (fun r => (V.v (.bool (r))))
theorem h_thalwegref03_valid : Has Try.prog 40 c_thalwegref03_valid := by
  refine hasF (ctx_cons h_thalwegref03_in ctx_nil) mix Try.func40 rfl (by kernel_rfl) ?_
  rintro ⟨a0, a1, a2⟩ r hF
  refine ⟨of_decide_eq_true rfl, ?_⟩
  refine st1 ?_
  obtain ⟨_, h, hF⟩ := e_bind hF
  (first | refine g_call h lv1 ?_ | refine g_callT h lv1 ?_)
  (conv => arg 1; whnf)
  refine st1 ?_
  rcases e_bif hF with ⟨hb1, hF⟩ | ⟨hb1, hF⟩ <;> (first | rw [hb1] | (conv => arg 7; rw [hb1]) | (conv => arg 9; rw [hb1]))
  · refine st1 ?_
    obtain ⟨_, h, hF⟩ := e_bind hF
    (first | refine g_call h lv1 ?_ | refine g_callT h lv1 ?_)
    (conv => arg 1; whnf)
    refine st1 ?_
    have hq : some _ = some _ := hF
    cases hq
    exact en1
  · refine st1 ?_
    have hq : some _ = some _ := hF
    cases hq
    exact en1


@[reducible] noncomputable def c_thalwegref03_Voyage : Con := conF F_thalwegref03_Voyage (fun x => match x with | (a0) => [(V.agg (eTVoyage a0))]) (fun r => (V.v (.bool (r))))
theorem h_thalwegref03_Voyage : Has Try.prog 21 c_thalwegref03_Voyage := by
  refine hasF (ctx_cons h_thalwegref03_in (ctx_cons h_thalwegref03_valid ctx_nil)) mix Try.func21 rfl (by kernel_rfl) ?_
  rintro a0 r hF
  refine ⟨of_decide_eq_true rfl, ?_⟩
  refine st1 ?_
  obtain ⟨_, h, hF⟩ := e_bind hF
  (first | refine g_call h lv1 ?_ | refine g_callT h lv1 ?_)
  (conv => arg 1; whnf)
  refine st1 ?_
  rcases e_bif hF with ⟨hb1, hF⟩ | ⟨hb1, hF⟩ <;> (first | rw [hb1] | (conv => arg 7; rw [hb1]) | (conv => arg 9; rw [hb1]))
  · refine st1 ?_
    have hq : some _ = some _ := hF
    cases hq
    exact en1
  · refine st1 ?_
    obtain ⟨_, h, hF⟩ := e_bind hF
    (first | refine g_call h lv1 ?_ | refine g_callT h lv1 ?_)
    (conv => arg 1; whnf)
    refine st1 ?_
    rcases e_bif hF with ⟨hb2, hF⟩ | ⟨hb2, hF⟩ <;> (first | rw [hb2] | (conv => arg 7; rw [hb2]) | (conv => arg 9; rw [hb2]))
    · refine st1 ?_
      have hq : some _ = some _ := hF
      cases hq
      exact en1
    · refine st1 ?_
      obtain ⟨_, h, hF⟩ := e_bind hF
      (first | refine g_call h lv1 ?_ | refine g_callT h lv1 ?_)
      (conv => arg 1; whnf)
      refine st1 ?_
      rcases e_bif hF with ⟨hb3, hF⟩ | ⟨hb3, hF⟩ <;> (first | rw [hb3] | (conv => arg 7; rw [hb3]) | (conv => arg 9; rw [hb3]))
      · refine st1 ?_
        have hq : some _ = some _ := hF
        cases hq
        exact en1
      · refine st1 ?_
        obtain ⟨_, h, hF⟩ := e_bind hF
        (first | refine g_call h lv1 ?_ | refine g_callT h lv1 ?_)
        (conv => arg 1; whnf)
        refine st1 ?_
        rcases e_bif hF with ⟨hb4, hF⟩ | ⟨hb4, hF⟩ <;> (first | rw [hb4] | (conv => arg 7; rw [hb4]) | (conv => arg 9; rw [hb4]))
        · refine st1 ?_
          have hq : some _ = some _ := hF
          cases hq
          exact en1
        · refine st1 ?_
          refine st_loopF (e_assoc hF) () [(0, _)] ⟨sT, sS, by rfl, by rfl⟩ ?_
          · as_aux_lemma =>
            rintro n _ _ x hx1 hF
            (conv => arg 7; whnf); (conv => arg 8; whnf); (conv => arg 9; whnf)
            refine st1 ?_
            rcases e_bif hF with ⟨hb20, hF⟩ | ⟨hb20, hF⟩ <;> (first | rw [hb20] | (conv => arg 7; rw [hb20]) | (conv => arg 9; rw [hb20]))
            · refine st1 ?_
              obtain ⟨_, h, hF⟩ := e_bind hF
              (first | refine o_ia (enc := eTRun) (s := 6) h (fun _ => rfl) (by decide) ?_ | refine o_iaT (enc := eTRun) (s := 6) h (fun _ => rfl) (by decide) ?_)
              intro _
              refine st1 ?_
              obtain ⟨_, h, hF⟩ := e_bind hF
              (first | refine g_call h lv1 ?_ | refine g_callT h lv1 ?_)
              (conv => arg 1; whnf)
              refine st1 ?_
              rcases e_bif hF with ⟨hb21, hF⟩ | ⟨hb21, hF⟩ <;> (first | rw [hb21] | (conv => arg 7; rw [hb21]) | (conv => arg 9; rw [hb21]))
              · refine st1 ?_
                (first | have hF := e_next (e_some hF) | have hF := e_some hF)
                have hq : some _ = some _ := hF
                cases hq
                exact en1
              · refine st1 ?_
                obtain ⟨_, h, hF⟩ := e_bind hF
                (first | refine g_call h lv1 ?_ | refine g_callT h lv1 ?_)
                (conv => arg 1; whnf)
                refine st1 ?_
                rcases e_bif hF with ⟨hb22, hF⟩ | ⟨hb22, hF⟩ <;> (first | rw [hb22] | (conv => arg 7; rw [hb22]) | (conv => arg 9; rw [hb22]))
                · refine st1 ?_
                  (first | have hF := e_next (e_some hF) | have hF := e_some hF)
                  have hq : some _ = some _ := hF
                  cases hq
                  exact en1
                · refine st1 ?_
                  rcases e_bif hF with ⟨hb23, hF⟩ | ⟨hb23, hF⟩ <;> (first | rw [hb23] | (conv => arg 7; rw [hb23]) | (conv => arg 9; rw [hb23]))
                  · refine st1 ?_
                    (first | have hF := e_next (e_some hF) | have hF := e_some hF)
                    have hq : some _ = some _ := hF
                    cases hq
                    exact en1
                  · refine st1 ?_
                    obtain ⟨_, h, hF⟩ := e_bind hF
                    (first | refine g_call h lv1 ?_ | refine g_callT h lv1 ?_)
                    (conv => arg 1; whnf)
                    refine st1 ?_
                    rcases e_bif hF with ⟨hb24, hF⟩ | ⟨hb24, hF⟩ <;> (first | rw [hb24] | (conv => arg 7; rw [hb24]) | (conv => arg 9; rw [hb24]))
                    · refine st1 ?_
                      (first | have hF := e_next (e_some hF) | have hF := e_some hF)
                      have hq : some _ = some _ := hF
                      cases hq
                      exact en1
                    · refine st1 ?_
                      obtain ⟨_, h, hF⟩ := e_bind hF
                      (first | refine g_call h lv1 ?_ | refine g_callT h lv1 ?_)
                      (conv => arg 1; whnf)
                      refine st1 ?_
                      rcases e_bif hF with ⟨hb25, hF⟩ | ⟨hb25, hF⟩ <;> (first | rw [hb25] | (conv => arg 7; rw [hb25]) | (conv => arg 9; rw [hb25]))
                      · refine st1 ?_
                        (first | have hF := e_next (e_some hF) | have hF := e_some hF)
                        have hq : some _ = some _ := hF
                        cases hq
                        exact en1
                      · refine st1 ?_
                        rcases e_bif hF with ⟨hb26, hF⟩ | ⟨hb26, hF⟩ <;> (first | rw [hb26] | (conv => arg 7; rw [hb26]) | (conv => arg 9; rw [hb26]))
                        · refine st1 ?_
                          obtain ⟨_, h, hF⟩ := e_bind hF
                          (first | refine o_ia (enc := eTRun) (s := 6) h (fun _ => rfl) (by decide) ?_ | refine o_iaT (enc := eTRun) (s := 6) h (fun _ => rfl) (by decide) ?_)
                          intro _
                          refine st1 ?_
                          rcases e_bif hF with ⟨hb27, hF⟩ | ⟨hb27, hF⟩ <;> (first | rw [hb27] | (conv => arg 7; rw [hb27]) | (conv => arg 9; rw [hb27]))
                          · refine st1 ?_
                            (first | have hF := e_next (e_some hF) | have hF := e_some hF)
                            have hq : some _ = some _ := hF
                            cases hq
                            exact en1
                          · refine st1 ?_
                            obtain ⟨_, h, hF⟩ := e_bind hF
                            (first | refine o_ia (enc := eTRun) (s := 6) h (fun _ => rfl) (by decide) ?_ | refine o_iaT (enc := eTRun) (s := 6) h (fun _ => rfl) (by decide) ?_)
                            intro _
                            refine st1 ?_
                            obtain ⟨_, h, hF⟩ := e_bind hF
                            (first | refine o_ia (enc := eTRun) (s := 6) h (fun _ => rfl) (by decide) ?_ | refine o_iaT (enc := eTRun) (s := 6) h (fun _ => rfl) (by decide) ?_)
                            intro _
                            refine st1 ?_
                            rcases e_bif hF with ⟨hb28, hF⟩ | ⟨hb28, hF⟩ <;> (first | rw [hb28] | (conv => arg 7; rw [hb28]) | (conv => arg 9; rw [hb28]))
                            · refine st1 ?_
                              (first | have hF := e_next (e_some hF) | have hF := e_some hF)
                              have hq : some _ = some _ := hF
                              cases hq
                              exact en1
                            · refine st1 ?_
                              exact k_loopF (e_some hF) hx1 () [(0, _)] ⟨sT, sS, by rfl, by rfl⟩
                        · refine st1 ?_
                          exact k_loopF (e_some hF) hx1 () [(0, _)] ⟨sT, sS, by rfl, by rfl⟩
            · refine st1 ?_
              (first | have hF := e_next (e_some hF) | have hF := e_some hF)
              have hq : some _ = some _ := hF
              cases hq
              exact en1


@[reducible] noncomputable def c_thalwegref03_Narrow : Con := conF F_thalwegref03_Narrow (fun x => match x with | (a0) => [(V.agg (eTNarrow a0))]) (fun r => (V.v (.bool (r))))
theorem h_thalwegref03_Narrow : Has Try.prog 22 c_thalwegref03_Narrow := by
  refine hasF (ctx_cons h_thalwegref03_in ctx_nil) mix Try.func22 rfl (by kernel_rfl) ?_
  rintro a0 r hF
  refine ⟨of_decide_eq_true rfl, ?_⟩
  refine st1 ?_
  obtain ⟨_, h, hF⟩ := e_bind hF
  (first | refine g_call h lv1 ?_ | refine g_callT h lv1 ?_)
  (conv => arg 1; whnf)
  refine st1 ?_
  rcases e_bif hF with ⟨hb1, hF⟩ | ⟨hb1, hF⟩ <;> (first | rw [hb1] | (conv => arg 7; rw [hb1]) | (conv => arg 9; rw [hb1]))
  · refine st1 ?_
    obtain ⟨_, h, hF⟩ := e_bind hF
    (first | refine g_call h lv1 ?_ | refine g_callT h lv1 ?_)
    (conv => arg 1; whnf)
    refine st1 ?_
    rcases e_bif hF with ⟨hb2, hF⟩ | ⟨hb2, hF⟩ <;> (first | rw [hb2] | (conv => arg 7; rw [hb2]) | (conv => arg 9; rw [hb2]))
    · refine st1 ?_
      obtain ⟨_, h, hF⟩ := e_bind hF
      (first | refine g_call h lv1 ?_ | refine g_callT h lv1 ?_)
      (conv => arg 1; whnf)
      refine st1 ?_
      have hq : some _ = some _ := hF
      cases hq
      exact en1
    · refine st1 ?_
      have hq : some _ = some _ := hF
      cases hq
      exact en1
  · refine st1 ?_
    have hq : some _ = some _ := hF
    cases hq
    exact en1


@[reducible] noncomputable def c_thalwegref03_Ends : Con := conF F_thalwegref03_Ends (fun x => match x with | (a0) => [(V.agg (eTVoyage a0))]) (fun r => V.tup [(V.v (.int .i64 (r.1))), (V.v (.int .i64 (r.2)))])
theorem h_thalwegref03_Ends : Has Try.prog 42 c_thalwegref03_Ends := by
  refine hasF ctx_nil mix Try.func42 rfl (by kernel_rfl) ?_
  rintro a0 r hF
  refine ⟨of_decide_eq_true rfl, ?_⟩
  refine st1 ?_
  obtain ⟨_, h, hF⟩ := e_bind hF
  (first | refine o_ia (enc := eTRun) (s := 6) h (fun _ => rfl) (by decide) ?_ | refine o_iaT (enc := eTRun) (s := 6) h (fun _ => rfl) (by decide) ?_)
  intro _
  refine st1 ?_
  obtain ⟨_, h, hF⟩ := e_bind hF
  (first | refine o_ia (enc := eTRun) (s := 6) h (fun _ => rfl) (by decide) ?_ | refine o_iaT (enc := eTRun) (s := 6) h (fun _ => rfl) (by decide) ?_)
  intro _
  refine st1 ?_
  have hq : some _ = some _ := hF
  cases hq
  exact en1


@[reducible] noncomputable def c_thalwegref03_between : Con := conF F_thalwegref03_between (fun x => match x with | (a0, a1, a2) => [(V.v (.int .i64 (a0))), (V.v (.int .i64 (a1))), (V.v (.int .i64 (a2)))]) (fun r => (V.v (.bool (r))))
theorem h_thalwegref03_between : Has Try.prog 62 c_thalwegref03_between := by
  refine hasF ctx_nil mix Try.func62 rfl (by kernel_rfl) ?_
  rintro ⟨a0, a1, a2⟩ r hF
  refine ⟨of_decide_eq_true rfl, ?_⟩
  refine st1 ?_
  rcases e_bif hF with ⟨hb1, hF⟩ | ⟨hb1, hF⟩ <;> (first | rw [hb1] | (conv => arg 7; rw [hb1]) | (conv => arg 9; rw [hb1]))
  · refine st1 ?_
    have hq : some _ = some _ := hF
    cases hq
    exact en1
  · refine st1 ?_
    have hq : some _ = some _ := hF
    cases hq
    exact en1


@[reducible] noncomputable def c_thalwegref03_On : Con := conF F_thalwegref03_On (fun x => match x with | (a0, a1) => [(V.agg (eTVoyage a0)), (V.v (.int .i64 (a1)))]) (fun r => (V.v (.bool (r))))
theorem h_thalwegref03_On : Has Try.prog 43 c_thalwegref03_On := by
  refine hasF (ctx_cons h_thalwegref03_between (ctx_cons h_thalwegref03_Ends ctx_nil)) mix Try.func43 rfl (by kernel_rfl) ?_
  rintro ⟨a0, a1⟩ r hF
  refine ⟨of_decide_eq_true rfl, ?_⟩
  refine st1 ?_
  obtain ⟨_, h, hF⟩ := e_bind hF
  (first | refine g_call h lv1 ?_ | refine g_callT h lv1 ?_)
  (conv => arg 1; whnf)
  refine st1 ?_
  obtain ⟨_, h, hF⟩ := e_bind hF
  (first | refine g_call h lv1 ?_ | refine g_callT h lv1 ?_)
  (conv => arg 1; whnf)
  refine st1 ?_
  have hq : some _ = some _ := hF
  cases hq
  exact en1


@[reducible] noncomputable def c_thalwegref03_minutes : Con := conF F_thalwegref03_minutes (fun x => match x with | (a0, a1, a2) => [(V.v (.int .i64 (a0))), (V.v (.int .i64 (a1))), (V.v (.int .i64 (a2)))]) (fun r => (V.v (.int .i64 (r))))
theorem h_thalwegref03_minutes : Has Try.prog 63 c_thalwegref03_minutes := by
  refine hasF ctx_nil mix Try.func63 rfl (by kernel_rfl) ?_
  rintro ⟨a0, a1, a2⟩ r hF
  refine ⟨of_decide_eq_true rfl, ?_⟩
  refine st1 ?_
  obtain ⟨_, h, hF⟩ := e_bind hF
  (first | refine go_req (nz_ne h) ?_ | refine goT_req (nz_ne h) ?_)
  (conv => arg 1; whnf)
  refine st1 ?_
  have hq : some _ = some _ := hF
  cases hq
  exact en1


@[reducible] noncomputable def c_thalwegref03_Arrive : Con := conF F_thalwegref03_Arrive (fun x => match x with | (a0, a1) => [(V.agg (eTVoyage a0)), (V.v (.int .i64 (a1)))]) (fun r => (V.agg (eTBounds r)))
theorem h_thalwegref03_Arrive : Has Try.prog 44 c_thalwegref03_Arrive := by
  refine hasF (ctx_cons h_thalwegref03_minutes (ctx_cons h_thalwegref03_between ctx_nil)) mix Try.func44 rfl (by kernel_rfl) ?_
  rintro ⟨a0, a1⟩ r hF
  refine ⟨of_decide_eq_true rfl, ?_⟩
  refine st1 ?_
  refine st_loopF (e_assoc hF) () [(0, _), (1, _), (4, _)] ⟨sT, sS, by rfl, by rfl⟩ ?_
  · as_aux_lemma =>
    rintro n ⟨_, _, _⟩ _ x hx1 hF
    (conv => arg 7; whnf); (conv => arg 8; whnf); (conv => arg 9; whnf)
    refine st1 ?_
    rcases e_bif hF with ⟨hb11, hF⟩ | ⟨hb11, hF⟩ <;> (first | rw [hb11] | (conv => arg 7; rw [hb11]) | (conv => arg 9; rw [hb11]))
    · refine st1 ?_
      obtain ⟨_, h, hF⟩ := e_bind hF
      (first | refine o_ia (enc := eTRun) (s := 6) h (fun _ => rfl) (by decide) ?_ | refine o_iaT (enc := eTRun) (s := 6) h (fun _ => rfl) (by decide) ?_)
      intro _
      refine st1 ?_
      rcases e_bif hF with ⟨hb12, hF⟩ | ⟨hb12, hF⟩ <;> (first | rw [hb12] | (conv => arg 7; rw [hb12]) | (conv => arg 9; rw [hb12]))
      · refine st1 ?_
        (first | have hF := e_next (e_some hF) | have hF := e_some hF)
        have hq : some _ = some _ := hF
        cases hq
        exact en1
      · refine st1 ?_
        obtain ⟨_, h, hF⟩ := e_bind hF
        (first | refine g_call h lv1 ?_ | refine g_callT h lv1 ?_)
        (conv => arg 1; whnf)
        refine st1 ?_
        rcases e_bif hF with ⟨hb13, hF⟩ | ⟨hb13, hF⟩ <;> (first | rw [hb13] | (conv => arg 7; rw [hb13]) | (conv => arg 9; rw [hb13]))
        · refine st1 ?_
          obtain ⟨_, h, hF⟩ := e_bind hF
          (first | refine g_call h lv1 ?_ | refine g_callT h lv1 ?_)
          (conv => arg 1; whnf)
          refine st1 ?_
          obtain ⟨_, h, hF⟩ := e_bind hF
          (first | refine g_call h lv1 ?_ | refine g_callT h lv1 ?_)
          (conv => arg 1; whnf)
          refine st1 ?_
          rcases e_bif hF with ⟨hb14, hF⟩ | ⟨hb14, hF⟩ <;> (first | rw [hb14] | (conv => arg 7; rw [hb14]) | (conv => arg 9; rw [hb14]))
          · refine st1 ?_
            (first | have hF := e_next (e_some hF) | have hF := e_some hF)
            have hq : some _ = some _ := hF
            cases hq
            exact en1
          · refine st1 ?_
            exact k_loopF (e_some hF) hx1 () [(0, _), (1, _), (4, _)] ⟨sT, sS, by rfl, by rfl⟩
        · refine st1 ?_
          obtain ⟨_, h, hF⟩ := e_bind hF
          (first | refine g_call h lv1 ?_ | refine g_callT h lv1 ?_)
          (conv => arg 1; whnf)
          refine st1 ?_
          obtain ⟨_, h, hF⟩ := e_bind hF
          (first | refine g_call h lv1 ?_ | refine g_callT h lv1 ?_)
          (conv => arg 1; whnf)
          refine st1 ?_
          rcases e_bif hF with ⟨hb15, hF⟩ | ⟨hb15, hF⟩ <;> (first | rw [hb15] | (conv => arg 7; rw [hb15]) | (conv => arg 9; rw [hb15]))
          · refine st1 ?_
            (first | have hF := e_next (e_some hF) | have hF := e_some hF)
            have hq : some _ = some _ := hF
            cases hq
            exact en1
          · refine st1 ?_
            exact k_loopF (e_some hF) hx1 () [(0, _), (1, _), (4, _)] ⟨sT, sS, by rfl, by rfl⟩
    · refine st1 ?_
      (first | have hF := e_next (e_some hF) | have hF := e_some hF)
      have hq : some _ = some _ := hF
      cases hq
      exact en1


@[reducible] noncomputable def c_thalwegref03_Through : Con := conF F_thalwegref03_Through (fun x => match x with | (a0, a1) => [(V.agg (eTVoyage a0)), (V.agg (eTNarrow a1))]) (fun r => V.tup [(V.agg (eTBounds r.1)), (V.agg (eTBounds r.2.1)), (V.v (.bool (r.2.2.1))), (V.v (.int .i64 (r.2.2.2)))])
theorem h_thalwegref03_Through : Has Try.prog 23 c_thalwegref03_Through := by
  refine hasF (ctx_cons h_thalwegref03_Arrive (ctx_cons h_thalwegref03_On (ctx_cons h_thalwegref03_Ends ctx_nil))) mix Try.func23 rfl (by kernel_rfl) ?_
  rintro ⟨a0, a1⟩ r hF
  refine ⟨of_decide_eq_true rfl, ?_⟩
  refine st1 ?_
  obtain ⟨_, h, hF⟩ := e_bind hF
  (first | refine g_call h lv1 ?_ | refine g_callT h lv1 ?_)
  (conv => arg 1; whnf)
  refine st1 ?_
  rcases e_bif hF with ⟨hb1, hF⟩ | ⟨hb1, hF⟩ <;> (first | rw [hb1] | (conv => arg 7; rw [hb1]) | (conv => arg 9; rw [hb1]))
  · refine st1 ?_
    rcases e_bif hF with ⟨hb2, hF⟩ | ⟨hb2, hF⟩ <;> (first | rw [hb2] | (conv => arg 7; rw [hb2]) | (conv => arg 9; rw [hb2]))
    · refine st1 ?_
      rcases e_bif hF with ⟨hb3, hF⟩ | ⟨hb3, hF⟩ <;> (first | rw [hb3] | (conv => arg 7; rw [hb3]) | (conv => arg 9; rw [hb3]))
      · refine st1 ?_
        rcases e_bif hF with ⟨hb4, hF⟩ | ⟨hb4, hF⟩ <;> (first | rw [hb4] | (conv => arg 7; rw [hb4]) | (conv => arg 9; rw [hb4]))
        · refine st1 ?_
          have hq : some _ = some _ := hF
          cases hq
          exact en1
        · refine st1 ?_
          obtain ⟨_, h, hF⟩ := e_bind hF
          (first | refine g_call h lv1 ?_ | refine g_callT h lv1 ?_)
          (conv => arg 1; whnf)
          refine st1 ?_
          rcases e_bif hF with ⟨hb5, hF⟩ | ⟨hb5, hF⟩ <;> (first | rw [hb5] | (conv => arg 7; rw [hb5]) | (conv => arg 9; rw [hb5]))
          · refine st1 ?_
            have hq : some _ = some _ := hF
            cases hq
            exact en1
          · refine st1 ?_
            obtain ⟨_, h, hF⟩ := e_bind hF
            (first | refine g_call h lv1 ?_ | refine g_callT h lv1 ?_)
            (conv => arg 1; whnf)
            refine st1 ?_
            rcases e_bif hF with ⟨hb6, hF⟩ | ⟨hb6, hF⟩ <;> (first | rw [hb6] | (conv => arg 7; rw [hb6]) | (conv => arg 9; rw [hb6]))
            · refine st1 ?_
              have hq : some _ = some _ := hF
              cases hq
              exact en1
            · refine st1 ?_
              obtain ⟨_, h, hF⟩ := e_bind hF
              (first | refine g_call h lv1 ?_ | refine g_callT h lv1 ?_)
              (conv => arg 1; whnf)
              refine st1 ?_
              obtain ⟨_, h, hF⟩ := e_bind hF
              (first | refine g_call h lv1 ?_ | refine g_callT h lv1 ?_)
              (conv => arg 1; whnf)
              refine st1 ?_
              have hq : some _ = some _ := hF
              cases hq
              exact en1
      · refine st1 ?_
        have hq : some _ = some _ := hF
        cases hq
        exact en1
    · refine st1 ?_
      rcases e_bif hF with ⟨hb7, hF⟩ | ⟨hb7, hF⟩ <;> (first | rw [hb7] | (conv => arg 7; rw [hb7]) | (conv => arg 9; rw [hb7]))
      · refine st1 ?_
        have hq : some _ = some _ := hF
        cases hq
        exact en1
      · refine st1 ?_
        obtain ⟨_, h, hF⟩ := e_bind hF
        (first | refine g_call h lv1 ?_ | refine g_callT h lv1 ?_)
        (conv => arg 1; whnf)
        refine st1 ?_
        rcases e_bif hF with ⟨hb8, hF⟩ | ⟨hb8, hF⟩ <;> (first | rw [hb8] | (conv => arg 7; rw [hb8]) | (conv => arg 9; rw [hb8]))
        · refine st1 ?_
          have hq : some _ = some _ := hF
          cases hq
          exact en1
        · refine st1 ?_
          obtain ⟨_, h, hF⟩ := e_bind hF
          (first | refine g_call h lv1 ?_ | refine g_callT h lv1 ?_)
          (conv => arg 1; whnf)
          refine st1 ?_
          rcases e_bif hF with ⟨hb9, hF⟩ | ⟨hb9, hF⟩ <;> (first | rw [hb9] | (conv => arg 7; rw [hb9]) | (conv => arg 9; rw [hb9]))
          · refine st1 ?_
            have hq : some _ = some _ := hF
            cases hq
            exact en1
          · refine st1 ?_
            obtain ⟨_, h, hF⟩ := e_bind hF
            (first | refine g_call h lv1 ?_ | refine g_callT h lv1 ?_)
            (conv => arg 1; whnf)
            refine st1 ?_
            obtain ⟨_, h, hF⟩ := e_bind hF
            (first | refine g_call h lv1 ?_ | refine g_callT h lv1 ?_)
            (conv => arg 1; whnf)
            refine st1 ?_
            have hq : some _ = some _ := hF
            cases hq
            exact en1
  · refine st1 ?_
    rcases e_bif hF with ⟨hb10, hF⟩ | ⟨hb10, hF⟩ <;> (first | rw [hb10] | (conv => arg 7; rw [hb10]) | (conv => arg 9; rw [hb10]))
    · refine st1 ?_
      rcases e_bif hF with ⟨hb11, hF⟩ | ⟨hb11, hF⟩ <;> (first | rw [hb11] | (conv => arg 7; rw [hb11]) | (conv => arg 9; rw [hb11]))
      · refine st1 ?_
        rcases e_bif hF with ⟨hb12, hF⟩ | ⟨hb12, hF⟩ <;> (first | rw [hb12] | (conv => arg 7; rw [hb12]) | (conv => arg 9; rw [hb12]))
        · refine st1 ?_
          have hq : some _ = some _ := hF
          cases hq
          exact en1
        · refine st1 ?_
          obtain ⟨_, h, hF⟩ := e_bind hF
          (first | refine g_call h lv1 ?_ | refine g_callT h lv1 ?_)
          (conv => arg 1; whnf)
          refine st1 ?_
          rcases e_bif hF with ⟨hb13, hF⟩ | ⟨hb13, hF⟩ <;> (first | rw [hb13] | (conv => arg 7; rw [hb13]) | (conv => arg 9; rw [hb13]))
          · refine st1 ?_
            have hq : some _ = some _ := hF
            cases hq
            exact en1
          · refine st1 ?_
            obtain ⟨_, h, hF⟩ := e_bind hF
            (first | refine g_call h lv1 ?_ | refine g_callT h lv1 ?_)
            (conv => arg 1; whnf)
            refine st1 ?_
            rcases e_bif hF with ⟨hb14, hF⟩ | ⟨hb14, hF⟩ <;> (first | rw [hb14] | (conv => arg 7; rw [hb14]) | (conv => arg 9; rw [hb14]))
            · refine st1 ?_
              have hq : some _ = some _ := hF
              cases hq
              exact en1
            · refine st1 ?_
              obtain ⟨_, h, hF⟩ := e_bind hF
              (first | refine g_call h lv1 ?_ | refine g_callT h lv1 ?_)
              (conv => arg 1; whnf)
              refine st1 ?_
              obtain ⟨_, h, hF⟩ := e_bind hF
              (first | refine g_call h lv1 ?_ | refine g_callT h lv1 ?_)
              (conv => arg 1; whnf)
              refine st1 ?_
              have hq : some _ = some _ := hF
              cases hq
              exact en1
      · refine st1 ?_
        have hq : some _ = some _ := hF
        cases hq
        exact en1
    · refine st1 ?_
      have hq : some _ = some _ := hF
      cases hq
      exact en1


@[reducible] noncomputable def c_thalwegref03_Start : Con := conF F_thalwegref03_Start (fun x => match x with | (a0, a1) => [(V.sl (recs eTVoyage (a0)) (a0).length), (V.sl (recs eTNarrow (a1)) (a1).length)]) (fun r => (V.v (.int .i64 (r))))
theorem h_thalwegref03_Start : Has Try.prog 10 c_thalwegref03_Start := by
  refine hasF (ctx_cons h_thalwegref03_Through (ctx_cons h_thalwegref03_Narrow (ctx_cons h_thalwegref03_Voyage ctx_nil))) mix Try.func10 rfl (by kernel_rfl) ?_
  rintro ⟨a0, a1⟩ r hF
  refine ⟨of_decide_eq_true rfl, ?_⟩
  refine st1 ?_
  rcases e_bif hF with ⟨hb1, hF⟩ | ⟨hb1, hF⟩ <;> (first | rw [hb1] | (conv => arg 7; rw [hb1]) | (conv => arg 9; rw [hb1]))
  · refine st1 ?_
    have hq : some _ = some _ := hF
    cases hq
    exact en1
  · refine st1 ?_
    rcases e_bif hF with ⟨hb2, hF⟩ | ⟨hb2, hF⟩ <;> (first | rw [hb2] | (conv => arg 7; rw [hb2]) | (conv => arg 9; rw [hb2]))
    · refine st1 ?_
      have hq : some _ = some _ := hF
      cases hq
      exact en1
    · refine st1 ?_
      refine st_loopF (e_assoc hF) () [] ⟨sT, sS, by rfl, by rfl⟩ ?_
      · as_aux_lemma =>
        rintro n _ _ x hx1 hF
        (conv => arg 7; whnf); (conv => arg 8; whnf); (conv => arg 9; whnf)
        refine st1 ?_
        rcases e_bif hF with ⟨hb7, hF⟩ | ⟨hb7, hF⟩ <;> (first | rw [hb7] | (conv => arg 7; rw [hb7]) | (conv => arg 9; rw [hb7]))
        · refine st1 ?_
          obtain ⟨_, h, hF⟩ := e_bind hF
          (first | refine o_ia (enc := eTVoyage) (s := 5) h (fun _ => rfl) (by decide) ?_ | refine o_iaT (enc := eTVoyage) (s := 5) h (fun _ => rfl) (by decide) ?_)
          intro _
          refine st1 ?_
          obtain ⟨_, h, hF⟩ := e_bind hF
          (first | refine g_call h lv1 ?_ | refine g_callT h lv1 ?_)
          (conv => arg 1; whnf)
          refine st1 ?_
          rcases e_bif hF with ⟨hb8, hF⟩ | ⟨hb8, hF⟩ <;> (first | rw [hb8] | (conv => arg 7; rw [hb8]) | (conv => arg 9; rw [hb8]))
          · refine st1 ?_
            (first | have hF := e_next (e_some hF) | have hF := e_some hF)
            have hq : some _ = some _ := hF
            cases hq
            exact en1
          · refine st1 ?_
            exact k_loopF (e_some hF) hx1 () [] ⟨sT, sS, by rfl, by rfl⟩
        · refine st1 ?_
          (first | have hF := e_next (e_some hF) | have hF := e_some hF)
          refine st_loopF (e_assoc hF) () [] ⟨sT, sS, by rfl, by rfl⟩ ?_
          · as_aux_lemma =>
            rintro n _ _ x hx1 hF
            (conv => arg 7; whnf); (conv => arg 8; whnf); (conv => arg 9; whnf)
            refine st1 ?_
            rcases e_bif hF with ⟨hb13, hF⟩ | ⟨hb13, hF⟩ <;> (first | rw [hb13] | (conv => arg 7; rw [hb13]) | (conv => arg 9; rw [hb13]))
            · refine st1 ?_
              obtain ⟨_, h, hF⟩ := e_bind hF
              (first | refine o_ia (enc := eTNarrow) (s := 4) h (fun _ => rfl) (by decide) ?_ | refine o_iaT (enc := eTNarrow) (s := 4) h (fun _ => rfl) (by decide) ?_)
              intro _
              refine st1 ?_
              obtain ⟨_, h, hF⟩ := e_bind hF
              (first | refine g_call h lv1 ?_ | refine g_callT h lv1 ?_)
              (conv => arg 1; whnf)
              refine st1 ?_
              rcases e_bif hF with ⟨hb14, hF⟩ | ⟨hb14, hF⟩ <;> (first | rw [hb14] | (conv => arg 7; rw [hb14]) | (conv => arg 9; rw [hb14]))
              · refine st1 ?_
                (first | have hF := e_next (e_some hF) | have hF := e_some hF)
                have hq : some _ = some _ := hF
                cases hq
                exact en1
              · refine st1 ?_
                exact k_loopF (e_some hF) hx1 () [] ⟨sT, sS, by rfl, by rfl⟩
            · refine st1 ?_
              (first | have hF := e_next (e_some hF) | have hF := e_some hF)
              refine st_loopF (e_assoc hF) () [] ⟨sT, sS, by rfl, by rfl⟩ ?_
              · as_aux_lemma =>
                rintro n _ _ x hx1 hF
                (conv => arg 7; whnf); (conv => arg 8; whnf); (conv => arg 9; whnf)
                refine st1 ?_
                rcases e_bif hF with ⟨hb29, hF⟩ | ⟨hb29, hF⟩ <;> (first | rw [hb29] | (conv => arg 7; rw [hb29]) | (conv => arg 9; rw [hb29]))
                · refine st1 ?_
                  refine st_loopF (e_assoc hF) () [] ⟨sT, sS, by rfl, by rfl⟩ ?_
                  · as_aux_lemma =>
                    rintro n _ _ x hx2 hF
                    (conv => arg 7; whnf); (conv => arg 8; whnf); (conv => arg 9; whnf)
                    refine st1 ?_
                    rcases e_bif hF with ⟨hb34, hF⟩ | ⟨hb34, hF⟩ <;> (first | rw [hb34] | (conv => arg 7; rw [hb34]) | (conv => arg 9; rw [hb34]))
                    · refine st1 ?_
                      obtain ⟨_, h, hF⟩ := e_bind hF
                      (first | refine o_ia (enc := eTVoyage) (s := 5) h (fun _ => rfl) (by decide) ?_ | refine o_iaT (enc := eTVoyage) (s := 5) h (fun _ => rfl) (by decide) ?_)
                      intro _
                      refine st1 ?_
                      obtain ⟨_, h, hF⟩ := e_bind hF
                      (first | refine o_ia (enc := eTNarrow) (s := 4) h (fun _ => rfl) (by decide) ?_ | refine o_iaT (enc := eTNarrow) (s := 4) h (fun _ => rfl) (by decide) ?_)
                      intro _
                      refine st1 ?_
                      obtain ⟨_, h, hF⟩ := e_bind hF
                      (first | refine g_call h lv1 ?_ | refine g_callT h lv1 ?_)
                      (conv => arg 1; whnf)
                      refine st1 ?_
                      rcases e_bif hF with ⟨hb35, hF⟩ | ⟨hb35, hF⟩ <;> (first | rw [hb35] | (conv => arg 7; rw [hb35]) | (conv => arg 9; rw [hb35]))
                      · refine st1 ?_
                        (first | have hF := e_next (e_some hF) | have hF := e_some hF)
                        (first | have hF := e_next (e_some hF) | have hF := e_some hF)
                        have hq : some _ = some _ := hF
                        cases hq
                        exact en1
                      · refine st1 ?_
                        exact k_loopF (e_some hF) hx2 () [] ⟨sT, sS, by rfl, by rfl⟩
                    · refine st1 ?_
                      (first | have hF := e_next (e_some hF) | have hF := e_some hF)
                      exact k_loopF (e_some hF) hx1 () [] ⟨sT, sS, by rfl, by rfl⟩
                · refine st1 ?_
                  (first | have hF := e_next (e_some hF) | have hF := e_some hF)
                  have hq : some _ = some _ := hF
                  cases hq
                  exact en1


@[reducible] noncomputable def c_thalwegref03_Meet : Con := conF F_thalwegref03_Meet (fun x => match x with | (a0, a1, a2) => [(V.agg (eTVoyage a0)), (V.agg (eTVoyage a1)), (V.agg (eTNarrow a2))]) (fun r => V.tup [(V.v (.bool (r.1))), (V.v (.bool (r.2.1))), (V.v (.int .i64 (r.2.2)))])
theorem h_thalwegref03_Meet : Has Try.prog 45 c_thalwegref03_Meet := by
  refine hasF (ctx_cons h_thalwegref03_Through ctx_nil) mix Try.func45 rfl (by kernel_rfl) ?_
  rintro ⟨a0, a1, a2⟩ r hF
  refine ⟨of_decide_eq_true rfl, ?_⟩
  refine st1 ?_
  obtain ⟨_, h, hF⟩ := e_bind hF
  (first | refine g_call h lv1 ?_ | refine g_callT h lv1 ?_)
  (conv => arg 1; whnf)
  refine st1 ?_
  rcases e_bif hF with ⟨hb1, hF⟩ | ⟨hb1, hF⟩ <;> (first | rw [hb1] | (conv => arg 7; rw [hb1]) | (conv => arg 9; rw [hb1]))
  · refine st1 ?_
    have hq : some _ = some _ := hF
    cases hq
    exact en1
  · refine st1 ?_
    obtain ⟨_, h, hF⟩ := e_bind hF
    (first | refine g_call h lv1 ?_ | refine g_callT h lv1 ?_)
    (conv => arg 1; whnf)
    refine st1 ?_
    rcases e_bif hF with ⟨hb2, hF⟩ | ⟨hb2, hF⟩ <;> (first | rw [hb2] | (conv => arg 7; rw [hb2]) | (conv => arg 9; rw [hb2]))
    · refine st1 ?_
      have hq : some _ = some _ := hF
      cases hq
      exact en1
    · refine st1 ?_
      rcases e_bif hF with ⟨hb3, hF⟩ | ⟨hb3, hF⟩ <;> (first | rw [hb3] | (conv => arg 7; rw [hb3]) | (conv => arg 9; rw [hb3]))
      · refine st1 ?_
        have hq : some _ = some _ := hF
        cases hq
        exact en1
      · refine st1 ?_
        rcases e_bif hF with ⟨hb4, hF⟩ | ⟨hb4, hF⟩ <;> (first | rw [hb4] | (conv => arg 7; rw [hb4]) | (conv => arg 9; rw [hb4]))
        · refine st1 ?_
          have hq : some _ = some _ := hF
          cases hq
          exact en1
        · refine st1 ?_
          rcases e_bif hF with ⟨hb5, hF⟩ | ⟨hb5, hF⟩ <;> (first | rw [hb5] | (conv => arg 7; rw [hb5]) | (conv => arg 9; rw [hb5]))
          · refine st1 ?_
            rcases e_bif hF with ⟨hb6, hF⟩ | ⟨hb6, hF⟩ <;> (first | rw [hb6] | (conv => arg 7; rw [hb6]) | (conv => arg 9; rw [hb6]))
            · refine st1 ?_
              have hq : some _ = some _ := hF
              cases hq
              exact en1
            · refine st1 ?_
              have hq : some _ = some _ := hF
              cases hq
              exact en1
          · refine st1 ?_
            rcases e_bif hF with ⟨hb7, hF⟩ | ⟨hb7, hF⟩ <;> (first | rw [hb7] | (conv => arg 7; rw [hb7]) | (conv => arg 9; rw [hb7]))
            · refine st1 ?_
              have hq : some _ = some _ := hF
              cases hq
              exact en1
            · refine st1 ?_
              have hq : some _ = some _ := hF
              cases hq
              exact en1


@[reducible] noncomputable def c_thalwegref03_Bars : Con := conF F_thalwegref03_Bars (fun x => match x with | (a0, a1, a2) => [(V.agg (eTVoyage a0)), (V.agg (eTVoyage a1)), (V.agg (eTNarrow a2))]) (fun r => (V.v (.bool (r))))
theorem h_thalwegref03_Bars : Has Try.prog 24 c_thalwegref03_Bars := by
  refine hasF (ctx_cons h_thalwegref03_Meet ctx_nil) mix Try.func24 rfl (by kernel_rfl) ?_
  rintro ⟨a0, a1, a2⟩ r hF
  refine ⟨of_decide_eq_true rfl, ?_⟩
  refine st1 ?_
  obtain ⟨_, h, hF⟩ := e_bind hF
  (first | refine g_call h lv1 ?_ | refine g_callT h lv1 ?_)
  (conv => arg 1; whnf)
  refine st1 ?_
  rcases e_bif hF with ⟨hb1, hF⟩ | ⟨hb1, hF⟩ <;> (first | rw [hb1] | (conv => arg 7; rw [hb1]) | (conv => arg 9; rw [hb1]))
  · refine st1 ?_
    rcases e_bif hF with ⟨hb2, hF⟩ | ⟨hb2, hF⟩ <;> (first | rw [hb2] | (conv => arg 7; rw [hb2]) | (conv => arg 9; rw [hb2]))
    · refine st1 ?_
      have hq : some _ = some _ := hF
      cases hq
      exact en1
    · refine st1 ?_
      have hq : some _ = some _ := hF
      cases hq
      exact en1
  · refine st1 ?_
    have hq : some _ = some _ := hF
    cases hq
    exact en1


@[reducible] noncomputable def c_thalwegref03_Conflicts : Con := conF F_thalwegref03_Conflicts (fun x => match x with | (a0, a1) => [(V.sl (recs eTVoyage (a0)) (a0).length), (V.sl (recs eTNarrow (a1)) (a1).length)]) (fun r => (V.sl (recs eTMeeting (r)) (r).length))
theorem h_thalwegref03_Conflicts : Has Try.prog 11 c_thalwegref03_Conflicts := by
  refine hasF (ctx_cons h_thalwegref03_Bars ctx_nil) mix Try.func11 rfl (by kernel_rfl) ?_
  rintro ⟨a0, a1⟩ r hF
  refine ⟨of_decide_eq_true rfl, ?_⟩
  refine st1 ?_
  refine st_loopF (e_assoc hF) () [(1, _)] ⟨sT, sS, by rfl, by rfl⟩ ?_
  · as_aux_lemma =>
    rintro n ⟨_, _⟩ _ x hx1 hF
    (conv => arg 7; whnf); (conv => arg 8; whnf); (conv => arg 9; whnf)
    refine st1 ?_
    rcases e_bif hF with ⟨hb45, hF⟩ | ⟨hb45, hF⟩ <;> (first | rw [hb45] | (conv => arg 7; rw [hb45]) | (conv => arg 9; rw [hb45]))
    · refine st1 ?_
      refine st_loopF (e_assoc hF) () [(1, _)] ⟨sT, sS, by rfl, by rfl⟩ ?_
      · as_aux_lemma =>
        rintro n ⟨_, _⟩ _ x hx2 hF
        (conv => arg 7; whnf); (conv => arg 8; whnf); (conv => arg 9; whnf)
        refine st1 ?_
        rcases e_bif hF with ⟨hb60, hF⟩ | ⟨hb60, hF⟩ <;> (first | rw [hb60] | (conv => arg 7; rw [hb60]) | (conv => arg 9; rw [hb60]))
        · refine st1 ?_
          refine st_loopF (e_assoc hF) () [(1, _)] ⟨sT, sS, by rfl, by rfl⟩ ?_
          · as_aux_lemma =>
            rintro n ⟨_, _⟩ _ x hx3 hF
            (conv => arg 7; whnf); (conv => arg 8; whnf); (conv => arg 9; whnf)
            refine st1 ?_
            rcases e_bif hF with ⟨hb65, hF⟩ | ⟨hb65, hF⟩ <;> (first | rw [hb65] | (conv => arg 7; rw [hb65]) | (conv => arg 9; rw [hb65]))
            · refine st1 ?_
              obtain ⟨_, h, hF⟩ := e_bind hF
              (first | refine o_ia (enc := eTVoyage) (s := 5) h (fun _ => rfl) (by decide) ?_ | refine o_iaT (enc := eTVoyage) (s := 5) h (fun _ => rfl) (by decide) ?_)
              intro _
              refine st1 ?_
              obtain ⟨_, h, hF⟩ := e_bind hF
              (first | refine o_ia (enc := eTVoyage) (s := 5) h (fun _ => rfl) (by decide) ?_ | refine o_iaT (enc := eTVoyage) (s := 5) h (fun _ => rfl) (by decide) ?_)
              intro _
              refine st1 ?_
              obtain ⟨_, h, hF⟩ := e_bind hF
              (first | refine o_ia (enc := eTNarrow) (s := 4) h (fun _ => rfl) (by decide) ?_ | refine o_iaT (enc := eTNarrow) (s := 4) h (fun _ => rfl) (by decide) ?_)
              intro _
              refine st1 ?_
              obtain ⟨_, h, hF⟩ := e_bind hF
              (first | refine g_call h lv1 ?_ | refine g_callT h lv1 ?_)
              (conv => arg 1; whnf)
              refine st1 ?_
              rcases e_bif hF with ⟨hb66, hF⟩ | ⟨hb66, hF⟩ <;> (first | rw [hb66] | (conv => arg 7; rw [hb66]) | (conv => arg 9; rw [hb66]))
              · refine st1 ?_
                obtain ⟨_, h, hF⟩ := e_bind hF
                (first | refine o_app (enc := eTMeeting) (s := 3) h (fun _ => rfl) ?_ | refine o_appT (enc := eTMeeting) (s := 3) h (fun _ => rfl) ?_ | (have h := app_val h; subst h))
                refine st1 ?_
                exact k_loopF (e_some hF) hx3 () [(1, _)] ⟨sT, sS, by rfl, by rfl⟩
              · refine st1 ?_
                exact k_loopF (e_some hF) hx3 () [(1, _)] ⟨sT, sS, by rfl, by rfl⟩
            · refine st1 ?_
              (first | have hF := e_next (e_some hF) | have hF := e_some hF)
              exact k_loopF (e_some hF) hx2 () [(1, _)] ⟨sT, sS, by rfl, by rfl⟩
        · refine st1 ?_
          (first | have hF := e_next (e_some hF) | have hF := e_some hF)
          exact k_loopF (e_some hF) hx1 () [(1, _)] ⟨sT, sS, by rfl, by rfl⟩
    · refine st1 ?_
      (first | have hF := e_next (e_some hF) | have hF := e_some hF)
      have hq : some _ = some _ := hF
      cases hq
      exact en1


end Go.Ev
