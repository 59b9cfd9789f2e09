/- A part of the proof of RiverDepths. -/
import Derived.Test.YteajfcmpmcopoaaProg
import Derived.Test.YteajfcmpmcopoaaW3
/- The functions do what is said. -/
set_option linter.unusedVariables false
set_option linter.unusedSimpArgs false
namespace Go.Ev
open Go.Proofs
set_option maxHeartbeats 1000000
set_option maxRecDepth 100000
theorem mix : Try.prog.follows .mixedOrders = true := by kernel_rfl
@[reducible] noncomputable def c_thalweglaw01_large : Con := conF F_thalweglaw01_large (fun x => match x with | (a0) => [(V.agg (eTthalweglaw01_Forecast a0))]) (fun r => (V.v (.bool (r))))
theorem h_thalweglaw01_large : Has Try.prog 16 c_thalweglaw01_large := by
  refine hasF ctx_nil mix Try.func16 rfl (by kernel_rfl) ?_
  rintro a0 r hF
  refine ⟨of_decide_eq_true rfl, ?_⟩
  refine st1 ?_
  rcases e_bif hF with ⟨hb, hF⟩ | ⟨hb, hF⟩ <;> rw [hb]
  · refine st1 ?_
    have hq : some _ = some _ := hF
    cases hq
    exact en1
  · refine st1 ?_
    rcases e_bif hF with ⟨hb, hF⟩ | ⟨hb, hF⟩ <;> rw [hb]
    · refine st1 ?_
      have hq : some _ = some _ := hF
      cases hq
      exact en1
    · refine st1 ?_
      rcases e_bif hF with ⟨hb, hF⟩ | ⟨hb, hF⟩ <;> rw [hb]
      · refine st1 ?_
        have hq : some _ = some _ := hF
        cases hq
        exact en1
      · refine st1 ?_
        refine st_loopF (e_assoc hF) () [(0, _)] ⟨sT, sS, by rfl, by rfl⟩ ?_
        · rintro n _ _ x hx1 hF
          (conv => arg 7; whnf); (conv => arg 8; whnf); (conv => arg 9; whnf)
          refine st1 ?_
          rcases e_bif hF with ⟨hb, hF⟩ | ⟨hb, hF⟩ <;> rw [hb]
          · refine st1 ?_
            obtain ⟨_, h, hF⟩ := e_bind hF
            (first | refine o_ia (enc := eTReach) (s := 9) h (fun _ => rfl) (by decide) ?_ | refine o_iaT (enc := eTReach) (s := 9) h (fun _ => rfl) (by decide) ?_)
            intro _
            refine st1 ?_
            rcases e_bif hF with ⟨hb, hF⟩ | ⟨hb, hF⟩ <;> rw [hb]
            · refine st1 ?_
              have hF := e_some hF
              have hq : some _ = some _ := hF
              cases hq
              exact en1
            · refine st1 ?_
              exact k_loopF (e_some hF) hx1 () [(0, _)] ⟨sT, sS, by rfl, by rfl⟩
          · refine st1 ?_
            have hF := e_some hF
            refine st_loopF (e_assoc hF) () [(0, _)] ⟨sT, sS, by rfl, by rfl⟩ ?_
            · rintro n _ _ x hx1 hF
              (conv => arg 7; whnf); (conv => arg 8; whnf); (conv => arg 9; whnf)
              refine st1 ?_
              rcases e_bif hF with ⟨hb, hF⟩ | ⟨hb, hF⟩ <;> rw [hb]
              · refine st1 ?_
                obtain ⟨_, h, hF⟩ := e_bind hF
                (first | refine o_ia (enc := (eS eTBounds)) (s := 1) h (fun _ => rfl) (by decide) ?_ | refine o_iaT (enc := (eS eTBounds)) (s := 1) h (fun _ => rfl) (by decide) ?_)
                intro _
                refine st1 ?_
                rcases e_bif hF with ⟨hb, hF⟩ | ⟨hb, hF⟩ <;> rw [hb]
                · refine st1 ?_
                  have hF := e_some hF
                  have hq : some _ = some _ := hF
                  cases hq
                  exact en1
                · refine st1 ?_
                  exact k_loopF (e_some hF) hx1 () [(0, _)] ⟨sT, sS, by rfl, by rfl⟩
              · refine st1 ?_
                have hF := e_some hF
                have hq : some _ = some _ := hF
                cases hq
                exact en1


@[reducible] noncomputable def c_thalweglaw01_copied : Con := conF F_thalweglaw01_copied (fun x => match x with | (a0) => [(V.agg (eTRiver a0))]) (fun r => (V.agg (eTRiver r)))
theorem h_thalweglaw01_copied : Has Try.prog 18 c_thalweglaw01_copied := by
  refine hasF ctx_nil mix Try.func18 rfl (by kernel_rfl) ?_
  rintro a0 r hF
  refine ⟨of_decide_eq_true rfl, ?_⟩
  refine st1 ?_
  refine st_loopF (e_assoc hF) () [(0, _), (1, _), (2, _)] ⟨sT, sS, by rfl, by rfl⟩ ?_
  · rintro n ⟨_, _⟩ _ x hx1 hF
    (conv => arg 7; whnf); (conv => arg 8; whnf); (conv => arg 9; whnf)
    refine st1 ?_
    rcases e_bif hF with ⟨hb, hF⟩ | ⟨hb, hF⟩ <;> rw [hb]
    · refine st1 ?_
      obtain ⟨_, h, hF⟩ := e_bind hF
      (first | refine o_ia (enc := eTReach) (s := 9) h (fun _ => rfl) (by decide) ?_ | refine o_iaT (enc := eTReach) (s := 9) h (fun _ => rfl) (by decide) ?_)
      intro _
      refine st1 ?_
      obtain ⟨_, h, hF⟩ := e_bind hF
      (first | refine o_app (enc := eTRateRow) (s := 2) h (fun _ => rfl) ?_ | refine o_appT (enc := eTRateRow) (s := 2) h (fun _ => rfl) ?_)
      refine st1 ?_
      obtain ⟨_, h, hF⟩ := e_bind hF
      (first | refine o_app (enc := eTReach) (s := 9) h (fun _ => rfl) ?_ | refine o_appT (enc := eTReach) (s := 9) h (fun _ => rfl) ?_)
      refine st1 ?_
      exact k_loopF (e_some hF) hx1 () [(0, _), (1, _), (2, _)] ⟨sT, sS, by rfl, by rfl⟩
    · refine st1 ?_
      have hF := e_some hF
      obtain ⟨_, h, hF⟩ := e_bind hF
      (first | refine o_app (enc := eTShoal) (s := 6) h (fun _ => rfl) ?_ | refine o_appT (enc := eTShoal) (s := 6) h (fun _ => rfl) ?_)
      refine st1 ?_
      have hq : some _ = some _ := hF
      cases hq
      exact en1


@[reducible] noncomputable def c_thalweglaw01_forecast : Con := conF F_thalweglaw01_forecast (fun x => match x with | (a0) => [(V.sl (recs (eS eTBounds) (a0)) (a0).length)]) (fun r => (V.sl (recs (eS eTBounds) (r)) (r).length))
theorem h_thalweglaw01_forecast : Has Try.prog 30 c_thalweglaw01_forecast := by
  refine hasF ctx_nil mix Try.func30 rfl (by kernel_rfl) ?_
  rintro a0 r hF
  refine ⟨of_decide_eq_true rfl, ?_⟩
  refine st1 ?_
  refine st_loopF (e_assoc hF) () [(1, _)] ⟨sT, sS, by rfl, by rfl⟩ ?_
  · rintro n ⟨_, _⟩ _ x hx1 hF
    (conv => arg 7; whnf); (conv => arg 8; whnf); (conv => arg 9; whnf)
    refine st1 ?_
    rcases e_bif hF with ⟨hb, hF⟩ | ⟨hb, hF⟩ <;> rw [hb]
    · refine st1 ?_
      obtain ⟨_, h, hF⟩ := e_bind hF
      (first | refine o_ia (enc := (eS eTBounds)) (s := 1) h (fun _ => rfl) (by decide) ?_ | refine o_iaT (enc := (eS eTBounds)) (s := 1) h (fun _ => rfl) (by decide) ?_)
      intro _
      refine st1 ?_
      obtain ⟨_, h, hF⟩ := e_bind hF
      (first | refine o_app (enc := eTBounds) (s := 2) h (fun _ => rfl) ?_ | refine o_appT (enc := eTBounds) (s := 2) h (fun _ => rfl) ?_)
      refine st1 ?_
      obtain ⟨_, h, hF⟩ := e_bind hF
      (first | refine o_app (enc := (eS eTBounds)) (s := 1) h (fun _ => rfl) ?_ | refine o_appT (enc := (eS eTBounds)) (s := 1) h (fun _ => rfl) ?_)
      refine st1 ?_
      exact k_loopF (e_some hF) hx1 () [(1, _)] ⟨sT, sS, by rfl, by rfl⟩
    · refine st1 ?_
      have hF := e_some hF
      have hq : some _ = some _ := hF
      cases hq
      exact en1


@[reducible] noncomputable def c_thalwegref01_In : Con := conF F_thalwegref01_In (fun x => match x with | (a0, a1, a2) => [(V.v (.int .i64 (a0))), (V.v (.int .i64 (a1))), (V.v (.int .i64 (a2)))]) (fun r => (V.v (.bool (r))))
theorem h_thalwegref01_In : Has Try.prog 37 c_thalwegref01_In := by
  refine hasF ctx_nil mix Try.func37 rfl (by kernel_rfl) ?_
  rintro ⟨a0, a1, a2⟩ r hF
  refine ⟨of_decide_eq_true rfl, ?_⟩
  refine st1 ?_
  rcases e_bif hF with ⟨hb, hF⟩ | ⟨hb, hF⟩ <;> rw [hb]
  · refine st1 ?_
    have hq : some _ = some _ := hF
    cases hq
    exact en1
  · refine st1 ?_
    have hq : some _ = some _ := hF
    cases hq
    exact en1


@[reducible] noncomputable def c_thalwegref01_Valid : Con := conF F_thalwegref01_Valid (fun x => match x with | (a0, a1, a2) => [(V.agg (eTBounds a0)), (V.v (.int .i64 (a1))), (V.v (.int .i64 (a2)))]) (fun r => (V.v (.bool (r))))
theorem h_thalwegref01_Valid : Has Try.prog 24 c_thalwegref01_Valid := by
  refine hasF (ctx_cons h_thalwegref01_In ctx_nil) mix Try.func24 rfl (by kernel_rfl) ?_
  rintro ⟨a0, a1, a2⟩ r hF
  refine ⟨of_decide_eq_true rfl, ?_⟩
  refine st1 ?_
  obtain ⟨_, h, hF⟩ := e_bind hF
  (first | refine g_call h lv1 ?_ | refine g_callT h lv1 ?_)
  (conv => arg 1; whnf)
  refine st1 ?_
  rcases e_bif hF with ⟨hb, hF⟩ | ⟨hb, hF⟩ <;> rw [hb]
  · refine st1 ?_
    obtain ⟨_, h, hF⟩ := e_bind hF
    (first | refine g_call h lv1 ?_ | refine g_callT h lv1 ?_)
    (conv => arg 1; whnf)
    refine st1 ?_
    have hq : some _ = some _ := hF
    cases hq
    exact en1
  · refine st1 ?_
    have hq : some _ = some _ := hF
    cases hq
    exact en1


@[reducible] noncomputable def c_thalwegref01_Reach : Con := conF F_thalwegref01_Reach (fun x => match x with | (a0) => [(V.agg (eTReach a0))]) (fun r => (V.v (.bool (r))))
theorem h_thalwegref01_Reach : Has Try.prog 23 c_thalwegref01_Reach := by
  refine hasF (ctx_cons h_thalwegref01_In (ctx_cons h_thalwegref01_Valid ctx_nil)) mix Try.func23 rfl (by kernel_rfl) ?_
  rintro a0 r hF
  refine ⟨of_decide_eq_true rfl, ?_⟩
  refine st1 ?_
  obtain ⟨_, h, hF⟩ := e_bind hF
  (first | refine g_call h lv1 ?_ | refine g_callT h lv1 ?_)
  (conv => arg 1; whnf)
  refine st1 ?_
  rcases e_bif hF with ⟨hb, hF⟩ | ⟨hb, hF⟩ <;> rw [hb]
  · refine st1 ?_
    have hq : some _ = some _ := hF
    cases hq
    exact en1
  · refine st1 ?_
    obtain ⟨_, h, hF⟩ := e_bind hF
    (first | refine g_call h lv1 ?_ | refine g_callT h lv1 ?_)
    (conv => arg 1; whnf)
    refine st1 ?_
    rcases e_bif hF with ⟨hb, hF⟩ | ⟨hb, hF⟩ <;> rw [hb]
    · refine st1 ?_
      have hq : some _ = some _ := hF
      cases hq
      exact en1
    · refine st1 ?_
      obtain ⟨_, h, hF⟩ := e_bind hF
      (first | refine g_call h lv1 ?_ | refine g_callT h lv1 ?_)
      (conv => arg 1; whnf)
      refine st1 ?_
      rcases e_bif hF with ⟨hb, hF⟩ | ⟨hb, hF⟩ <;> rw [hb]
      · refine st1 ?_
        have hq : some _ = some _ := hF
        cases hq
        exact en1
      · refine st1 ?_
        obtain ⟨_, h, hF⟩ := e_bind hF
        (first | refine g_call h lv1 ?_ | refine g_callT h lv1 ?_)
        (conv => arg 1; whnf)
        refine st1 ?_
        rcases e_bif hF with ⟨hb, hF⟩ | ⟨hb, hF⟩ <;> rw [hb]
        · refine st1 ?_
          have hq : some _ = some _ := hF
          cases hq
          exact en1
        · refine st1 ?_
          obtain ⟨_, h, hF⟩ := e_bind hF
          (first | refine g_call h lv1 ?_ | refine g_callT h lv1 ?_)
          (conv => arg 1; whnf)
          refine st1 ?_
          rcases e_bif hF with ⟨hb, hF⟩ | ⟨hb, hF⟩ <;> rw [hb]
          · refine st1 ?_
            have hq : some _ = some _ := hF
            cases hq
            exact en1
          · refine st1 ?_
            obtain ⟨_, h, hF⟩ := e_bind hF
            (first | refine g_call h lv1 ?_ | refine g_callT h lv1 ?_)
            (conv => arg 1; whnf)
            refine st1 ?_
            rcases e_bif hF with ⟨hb, hF⟩ | ⟨hb, hF⟩ <;> rw [hb]
            · refine st1 ?_
              have hq : some _ = some _ := hF
              cases hq
              exact en1
            · refine st1 ?_
              obtain ⟨_, h, hF⟩ := e_bind hF
              (first | refine g_call h lv1 ?_ | refine g_callT h lv1 ?_)
              (conv => arg 1; whnf)
              refine st1 ?_
              rcases e_bif hF with ⟨hb, hF⟩ | ⟨hb, hF⟩ <;> rw [hb]
              · refine st1 ?_
                have hq : some _ = some _ := hF
                cases hq
                exact en1
              · refine st1 ?_
                refine st_loopF (e_assoc hF) () [(0, _)] ⟨sT, sS, by rfl, by rfl⟩ ?_
                · rintro n _ _ x hx1 hF
                  (conv => arg 7; whnf); (conv => arg 8; whnf); (conv => arg 9; whnf)
                  refine st1 ?_
                  rcases e_bif hF with ⟨hb, hF⟩ | ⟨hb, hF⟩ <;> rw [hb]
                  · refine st1 ?_
                    obtain ⟨_, h, hF⟩ := e_bind hF
                    (first | refine o_ia (enc := eTRateRow) (s := 2) h (fun _ => rfl) (by decide) ?_ | refine o_iaT (enc := eTRateRow) (s := 2) h (fun _ => rfl) (by decide) ?_)
                    intro _
                    refine st1 ?_
                    obtain ⟨_, h, hF⟩ := e_bind hF
                    (first | refine g_call h lv1 ?_ | refine g_callT h lv1 ?_)
                    (conv => arg 1; whnf)
                    refine st1 ?_
                    rcases e_bif hF with ⟨hb, hF⟩ | ⟨hb, hF⟩ <;> rw [hb]
                    · refine st1 ?_
                      have hF := e_some hF
                      have hq : some _ = some _ := hF
                      cases hq
                      exact en1
                    · refine st1 ?_
                      obtain ⟨_, h, hF⟩ := e_bind hF
                      (first | refine o_ia (enc := eTRateRow) (s := 2) h (fun _ => rfl) (by decide) ?_ | refine o_iaT (enc := eTRateRow) (s := 2) h (fun _ => rfl) (by decide) ?_)
                      intro _
                      refine st1 ?_
                      obtain ⟨_, h, hF⟩ := e_bind hF
                      (first | refine g_call h lv1 ?_ | refine g_callT h lv1 ?_)
                      (conv => arg 1; whnf)
                      refine st1 ?_
                      rcases e_bif hF with ⟨hb, hF⟩ | ⟨hb, hF⟩ <;> rw [hb]
                      · refine st1 ?_
                        have hF := e_some hF
                        have hq : some _ = some _ := hF
                        cases hq
                        exact en1
                      · refine st1 ?_
                        rcases e_bif hF with ⟨hb, hF⟩ | ⟨hb, hF⟩ <;> rw [hb]
                        · refine st1 ?_
                          obtain ⟨_, h, hF⟩ := e_bind hF
                          (first | refine o_ia (enc := eTRateRow) (s := 2) h (fun _ => rfl) (by decide) ?_ | refine o_iaT (enc := eTRateRow) (s := 2) h (fun _ => rfl) (by decide) ?_)
                          intro _
                          refine st1 ?_
                          obtain ⟨_, h, hF⟩ := e_bind hF
                          (first | refine o_ia (enc := eTRateRow) (s := 2) h (fun _ => rfl) (by decide) ?_ | refine o_iaT (enc := eTRateRow) (s := 2) h (fun _ => rfl) (by decide) ?_)
                          intro _
                          refine st1 ?_
                          rcases e_bif hF with ⟨hb, hF⟩ | ⟨hb, hF⟩ <;> rw [hb]
                          · refine st1 ?_
                            have hF := e_some hF
                            have hq : some _ = some _ := hF
                            cases hq
                            exact en1
                          · refine st1 ?_
                            obtain ⟨_, h, hF⟩ := e_bind hF
                            (first | refine o_ia (enc := eTRateRow) (s := 2) h (fun _ => rfl) (by decide) ?_ | refine o_iaT (enc := eTRateRow) (s := 2) h (fun _ => rfl) (by decide) ?_)
                            intro _
                            refine st1 ?_
                            obtain ⟨_, h, hF⟩ := e_bind hF
                            (first | refine o_ia (enc := eTRateRow) (s := 2) h (fun _ => rfl) (by decide) ?_ | refine o_iaT (enc := eTRateRow) (s := 2) h (fun _ => rfl) (by decide) ?_)
                            intro _
                            refine st1 ?_
                            rcases e_bif hF with ⟨hb, hF⟩ | ⟨hb, hF⟩ <;> rw [hb]
                            · refine st1 ?_
                              have hF := e_some hF
                              have hq : some _ = some _ := hF
                              cases hq
                              exact en1
                            · refine st1 ?_
                              exact k_loopF (e_some hF) hx1 () [(0, _)] ⟨sT, sS, by rfl, by rfl⟩
                        · refine st1 ?_
                          exact k_loopF (e_some hF) hx1 () [(0, _)] ⟨sT, sS, by rfl, by rfl⟩
                  · refine st1 ?_
                    have hF := e_some hF
                    have hq : some _ = some _ := hF
                    cases hq
                    exact en1


@[reducible] noncomputable def c_thalwegref01_Places : Con := conF F_thalwegref01_Places (fun x => match x with | (a0) => [(V.agg (eTRiver a0))]) (fun r => (V.v (.int .i64 (r))))
theorem h_thalwegref01_Places : Has Try.prog 41 c_thalwegref01_Places := by
  refine hasF ctx_nil mix Try.func41 rfl (by kernel_rfl) ?_
  rintro a0 r hF
  refine ⟨of_decide_eq_true rfl, ?_⟩
  refine st1 ?_
  refine st_loopF (e_assoc hF) () [(0, _)] ⟨sT, sS, by rfl, by rfl⟩ ?_
  · rintro n ⟨_, _⟩ _ x hx1 hF
    (conv => arg 7; whnf); (conv => arg 8; whnf); (conv => arg 9; whnf)
    refine st1 ?_
    rcases e_bif hF with ⟨hb, hF⟩ | ⟨hb, hF⟩ <;> rw [hb]
    · refine st1 ?_
      obtain ⟨_, h, hF⟩ := e_bind hF
      (first | refine o_ia (enc := eTReach) (s := 9) h (fun _ => rfl) (by decide) ?_ | refine o_iaT (enc := eTReach) (s := 9) h (fun _ => rfl) (by decide) ?_)
      intro _
      refine st1 ?_
      exact k_loopF (e_some hF) hx1 () [(0, _)] ⟨sT, sS, by rfl, by rfl⟩
    · refine st1 ?_
      have hF := e_some hF
      have hq : some _ = some _ := hF
      cases hq
      exact en1


@[reducible] noncomputable def c_thalwegref01_River : Con := conF F_thalwegref01_River (fun x => match x with | (a0) => [(V.agg (eTRiver a0))]) (fun r => (V.v (.bool (r))))
theorem h_thalwegref01_River : Has Try.prog 20 c_thalwegref01_River := by
  refine hasF (ctx_cons h_thalwegref01_Places (ctx_cons h_thalwegref01_In (ctx_cons h_thalwegref01_Valid (ctx_cons h_thalwegref01_Reach ctx_nil)))) mix Try.func20 rfl (by kernel_rfl) ?_
  rintro a0 r hF
  refine ⟨of_decide_eq_true rfl, ?_⟩
  refine st1 ?_
  obtain ⟨_, h, hF⟩ := e_bind hF
  (first | refine g_call h lv1 ?_ | refine g_callT h lv1 ?_)
  (conv => arg 1; whnf)
  refine st1 ?_
  rcases e_bif hF with ⟨hb, hF⟩ | ⟨hb, hF⟩ <;> rw [hb]
  · refine st1 ?_
    have hq : some _ = some _ := hF
    cases hq
    exact en1
  · refine st1 ?_
    rcases e_bif hF with ⟨hb, hF⟩ | ⟨hb, hF⟩ <;> rw [hb]
    · refine st1 ?_
      have hq : some _ = some _ := hF
      cases hq
      exact en1
    · refine st1 ?_
      refine st_loopF (e_assoc hF) () [(0, _)] ⟨sT, sS, by rfl, by rfl⟩ ?_
      · rintro n _ _ x hx1 hF
        (conv => arg 7; whnf); (conv => arg 8; whnf); (conv => arg 9; whnf)
        refine st1 ?_
        rcases e_bif hF with ⟨hb, hF⟩ | ⟨hb, hF⟩ <;> rw [hb]
        · refine st1 ?_
          obtain ⟨_, h, hF⟩ := e_bind hF
          (first | refine o_ia (enc := eTReach) (s := 9) h (fun _ => rfl) (by decide) ?_ | refine o_iaT (enc := eTReach) (s := 9) h (fun _ => rfl) (by decide) ?_)
          intro _
          refine st1 ?_
          obtain ⟨_, h, hF⟩ := e_bind hF
          (first | refine g_call h lv1 ?_ | refine g_callT h lv1 ?_)
          (conv => arg 1; whnf)
          refine st1 ?_
          rcases e_bif hF with ⟨hb, hF⟩ | ⟨hb, hF⟩ <;> rw [hb]
          · refine st1 ?_
            have hF := e_some hF
            have hq : some _ = some _ := hF
            cases hq
            exact en1
          · refine st1 ?_
            exact k_loopF (e_some hF) hx1 () [(0, _)] ⟨sT, sS, by rfl, by rfl⟩
        · refine st1 ?_
          have hF := e_some hF
          refine st_loopF (e_assoc hF) () [(0, _)] ⟨sT, sS, by rfl, by rfl⟩ ?_
          · rintro n _ _ x hx1 hF
            (conv => arg 7; whnf); (conv => arg 8; whnf); (conv => arg 9; whnf)
            refine st1 ?_
            rcases e_bif hF with ⟨hb, hF⟩ | ⟨hb, hF⟩ <;> rw [hb]
            · refine st1 ?_
              obtain ⟨_, h, hF⟩ := e_bind hF
              (first | refine o_ia (enc := eTShoal) (s := 6) h (fun _ => rfl) (by decide) ?_ | refine o_iaT (enc := eTShoal) (s := 6) h (fun _ => rfl) (by decide) ?_)
              intro _
              refine st1 ?_
              obtain ⟨_, h, hF⟩ := e_bind hF
              (first | refine g_call h lv1 ?_ | refine g_callT h lv1 ?_)
              (conv => arg 1; whnf)
              refine st1 ?_
              obtain ⟨_, h, hF⟩ := e_bind hF
              (first | refine g_call h lv1 ?_ | refine g_callT h lv1 ?_)
              (conv => arg 1; whnf)
              refine st1 ?_
              rcases e_bif hF with ⟨hb, hF⟩ | ⟨hb, hF⟩ <;> rw [hb]
              · refine st1 ?_
                have hF := e_some hF
                have hq : some _ = some _ := hF
                cases hq
                exact en1
              · refine st1 ?_
                obtain ⟨_, h, hF⟩ := e_bind hF
                (first | refine g_call h lv1 ?_ | refine g_callT h lv1 ?_)
                (conv => arg 1; whnf)
                refine st1 ?_
                rcases e_bif hF with ⟨hb, hF⟩ | ⟨hb, hF⟩ <;> rw [hb]
                · refine st1 ?_
                  have hF := e_some hF
                  have hq : some _ = some _ := hF
                  cases hq
                  exact en1
                · refine st1 ?_
                  obtain ⟨_, h, hF⟩ := e_bind hF
                  (first | refine g_call h lv1 ?_ | refine g_callT h lv1 ?_)
                  (conv => arg 1; whnf)
                  refine st1 ?_
                  rcases e_bif hF with ⟨hb, hF⟩ | ⟨hb, hF⟩ <;> rw [hb]
                  · refine st1 ?_
                    have hF := e_some hF
                    have hq : some _ = some _ := hF
                    cases hq
                    exact en1
                  · refine st1 ?_
                    obtain ⟨_, h, hF⟩ := e_bind hF
                    (first | refine g_call h lv1 ?_ | refine g_callT h lv1 ?_)
                    (conv => arg 1; whnf)
                    refine st1 ?_
                    rcases e_bif hF with ⟨hb, hF⟩ | ⟨hb, hF⟩ <;> rw [hb]
                    · refine st1 ?_
                      have hF := e_some hF
                      have hq : some _ = some _ := hF
                      cases hq
                      exact en1
                    · refine st1 ?_
                      exact k_loopF (e_some hF) hx1 () [(0, _)] ⟨sT, sS, by rfl, by rfl⟩
            · refine st1 ?_
              have hF := e_some hF
              have hq : some _ = some _ := hF
              cases hq
              exact en1


@[reducible] noncomputable def c_thalwegref01_Start : Con := conF F_thalwegref01_Start (fun x => match x with | (a0, a1) => [(V.agg (eTRiver a0)), (V.sl (recs (eS eTBounds) (a1)) (a1).length)]) (fun r => (V.v (.int .i64 (r))))
theorem h_thalwegref01_Start : Has Try.prog 34 c_thalwegref01_Start := by
  refine hasF (ctx_cons h_thalwegref01_Valid (ctx_cons h_thalwegref01_River ctx_nil)) mix Try.func34 rfl (by kernel_rfl) ?_
  rintro ⟨a0, a1⟩ r hF
  refine ⟨of_decide_eq_true rfl, ?_⟩
  refine st1 ?_
  obtain ⟨_, h, hF⟩ := e_bind hF
  (first | refine g_call h lv1 ?_ | refine g_callT h lv1 ?_)
  (conv => arg 1; whnf)
  refine st1 ?_
  rcases e_bif hF with ⟨hb, hF⟩ | ⟨hb, hF⟩ <;> rw [hb]
  · refine st1 ?_
    have hq : some _ = some _ := hF
    cases hq
    exact en1
  · refine st1 ?_
    rcases e_bif hF with ⟨hb, hF⟩ | ⟨hb, hF⟩ <;> rw [hb]
    · refine st1 ?_
      have hq : some _ = some _ := hF
      cases hq
      exact en1
    · refine st1 ?_
      obtain ⟨_, h, hF⟩ := e_bind hF
      (first | refine o_ia (enc := (eS eTBounds)) (s := 1) h (fun _ => rfl) (by decide) ?_ | refine o_iaT (enc := (eS eTBounds)) (s := 1) h (fun _ => rfl) (by decide) ?_)
      intro _
      refine st1 ?_
      rcases e_bif hF with ⟨hb, hF⟩ | ⟨hb, hF⟩ <;> rw [hb]
      · refine st1 ?_
        have hq : some _ = some _ := hF
        cases hq
        exact en1
      · refine st1 ?_
        refine st_loopF (e_assoc hF) () [] ⟨sT, sS, by rfl, by rfl⟩ ?_
        · rintro n _ _ x hx1 hF
          (conv => arg 7; whnf); (conv => arg 8; whnf); (conv => arg 9; whnf)
          refine st1 ?_
          rcases e_bif hF with ⟨hb, hF⟩ | ⟨hb, hF⟩ <;> rw [hb]
          · refine st1 ?_
            obtain ⟨_, h, hF⟩ := e_bind hF
            (first | refine o_ia (enc := (eS eTBounds)) (s := 1) h (fun _ => rfl) (by decide) ?_ | refine o_iaT (enc := (eS eTBounds)) (s := 1) h (fun _ => rfl) (by decide) ?_)
            intro _
            refine st1 ?_
            obtain ⟨_, h, hF⟩ := e_bind hF
            (first | refine o_ia (enc := (eS eTBounds)) (s := 1) h (fun _ => rfl) (by decide) ?_ | refine o_iaT (enc := (eS eTBounds)) (s := 1) h (fun _ => rfl) (by decide) ?_)
            intro _
            refine st1 ?_
            rcases e_bif hF with ⟨hb, hF⟩ | ⟨hb, hF⟩ <;> rw [hb]
            · refine st1 ?_
              have hF := e_some hF
              have hq : some _ = some _ := hF
              cases hq
              exact en1
            · refine st1 ?_
              exact k_loopF (e_some hF) hx1 () [] ⟨sT, sS, by rfl, by rfl⟩
          · refine st1 ?_
            have hF := e_some hF
            obtain ⟨_, h, hF⟩ := e_bind hF
            (first | refine o_ia (enc := (eS eTBounds)) (s := 1) h (fun _ => rfl) (by decide) ?_ | refine o_iaT (enc := (eS eTBounds)) (s := 1) h (fun _ => rfl) (by decide) ?_)
            intro _
            refine st1 ?_
            rcases e_bif hF with ⟨hb, hF⟩ | ⟨hb, hF⟩ <;> rw [hb]
            · refine st1 ?_
              have hq : some _ = some _ := hF
              cases hq
              exact en1
            · refine st1 ?_
              refine st_loopF (e_assoc hF) () [] ⟨sT, sS, by rfl, by rfl⟩ ?_
              · rintro n _ _ x hx1 hF
                (conv => arg 7; whnf); (conv => arg 8; whnf); (conv => arg 9; whnf)
                refine st1 ?_
                rcases e_bif hF with ⟨hb, hF⟩ | ⟨hb, hF⟩ <;> rw [hb]
                · refine st1 ?_
                  refine st_loopF (e_assoc hF) () [] ⟨sT, sS, by rfl, by rfl⟩ ?_
                  · rintro n _ _ x hx2 hF
                    (conv => arg 7; whnf); (conv => arg 8; whnf); (conv => arg 9; whnf)
                    refine st1 ?_
                    obtain ⟨_, h, hF⟩ := e_bind hF
                    (first | refine o_ia (enc := (eS eTBounds)) (s := 1) h (fun _ => rfl) (by decide) ?_ | refine o_iaT (enc := (eS eTBounds)) (s := 1) h (fun _ => rfl) (by decide) ?_)
                    intro _
                    refine st1 ?_
                    rcases e_bif hF with ⟨hb, hF⟩ | ⟨hb, hF⟩ <;> rw [hb]
                    · refine st1 ?_
                      obtain ⟨_, h, hF⟩ := e_bind hF
                      (first | refine o_ia (enc := (eS eTBounds)) (s := 1) h (fun _ => rfl) (by decide) ?_ | refine o_iaT (enc := (eS eTBounds)) (s := 1) h (fun _ => rfl) (by decide) ?_)
                      intro _
                      refine st1 ?_
                      obtain ⟨_, h, hF⟩ := e_bind hF
                      (first | refine o_ia (enc := eTBounds) (s := 2) h (fun _ => rfl) (by decide) ?_ | refine o_iaT (enc := eTBounds) (s := 2) h (fun _ => rfl) (by decide) ?_)
                      intro _
                      refine st1 ?_
                      obtain ⟨_, h, hF⟩ := e_bind hF
                      (first | refine g_call h lv1 ?_ | refine g_callT h lv1 ?_)
                      (conv => arg 1; whnf)
                      refine st1 ?_
                      rcases e_bif hF with ⟨hb, hF⟩ | ⟨hb, hF⟩ <;> rw [hb]
                      · refine st1 ?_
                        have hF := e_some hF
                        have hF := e_some hF
                        have hq : some _ = some _ := hF
                        cases hq
                        exact en1
                      · refine st1 ?_
                        exact k_loopF (e_some hF) hx2 () [] ⟨sT, sS, by rfl, by rfl⟩
                    · refine st1 ?_
                      have hF := e_some hF
                      exact k_loopF (e_some hF) hx1 () [] ⟨sT, sS, by rfl, by rfl⟩
                · refine st1 ?_
                  have hF := e_some hF
                  have hq : some _ = some _ := hF
                  cases hq
                  exact en1


@[reducible] noncomputable def c_numbers_Every_int (C : FuncId → Option Con) : Con := conK F_numbers_Every_int (fun x => match x with | (a0, a1, g, caps) => [(V.sl (recs (eI .i64) (a0)) (a0).length), (V.fn g caps)]) (fun x => match x with | (a0, a1, g, caps) => Callable (ext C []) g caps (fun x => match x with | (q0) => [(V.v (.int .i64 (q0)))]) (fun r => (V.v (.bool (r)))) a1) (fun r => (V.v (.bool (r))))
theorem h_numbers_Every_int {C : FuncId → Option Con} (hC : CtxOK Try.prog C) : Has Try.prog 88 (c_numbers_Every_int C) := by
  refine hasK (ext_nil hC) mix Try.func88 rfl (by kernel_rfl) ?_
  rintro ⟨a0, a1, g, caps⟩ r hcl hF
  obtain ⟨hcaps, c, hc, hce, hcall⟩ := id hcl
  refine ⟨of_decide_eq_true rfl, ?_⟩
  refine st1 ?_
  refine st_loopF (e_assoc hF) () [] ⟨sT, sS, by rfl, by rfl⟩ ?_
  · rintro n _ _ x hx1 hF
    (conv => arg 7; whnf); (conv => arg 8; whnf); (conv => arg 9; whnf)
    refine st1 ?_
    rcases e_bif hF with ⟨hb, hF⟩ | ⟨hb, hF⟩ <;> rw [hb]
    · refine st1 ?_
      obtain ⟨_, h, hF⟩ := e_bind hF
      (first | refine o_ia (enc := (eI .i64)) (s := 1) h (fun _ => rfl) (by decide) ?_ | refine o_iaT (enc := (eI .i64)) (s := 1) h (fun _ => rfl) (by decide) ?_)
      intro _
      refine st1 ?_
      obtain ⟨_, h, hF⟩ := e_bind hF
      rw [hc]
      (conv => arg 1; whnf)
      rw [hce]
      (conv => arg 1; whnf)
      (first | refine go_map hcaps rfl ?_ | refine goT_map hcaps rfl ?_)
      (conv => arg 1; whnf)
      obtain ⟨z, hz1, hz2, hz3⟩ := hcall _ _ h
      (first | refine go_exi z ⟨levs_eq hz1.symm, hz2⟩ ?_ | refine goT_exi z ⟨levs_eq hz1.symm, hz2⟩ ?_)
      rw [hz3]
      (conv => arg 1; whnf)
      refine st1 ?_
      rcases e_bif hF with ⟨hb, hF⟩ | ⟨hb, hF⟩ <;> rw [hb]
      · refine st1 ?_
        have hF := e_some hF
        have hq : some _ = some _ := hF
        cases hq
        exact en1
      · refine st1 ?_
        exact k_loopF (e_some hF) hx1 () [] ⟨sT, sS, by rfl, by rfl⟩
    · refine st1 ?_
      have hF := e_some hF
      have hq : some _ = some _ := hF
      cases hq
      exact en1


@[reducible] noncomputable def c_numbers_Within_1 : Con := conF F_numbers_Within_1 (fun x => match x with | (a0, c0, c1) => [(V.v (.int .i64 (a0))), (V.fptr [(V.v (.int .i64 (c0)))]), (V.fptr [(V.v (.int .i64 (c1)))])]) (fun r => (V.v (.bool (r))))
theorem h_numbers_Within_1 : Has Try.prog 89 c_numbers_Within_1 := by
  refine hasF ctx_nil mix Try.func89 rfl (by kernel_rfl) ?_
  rintro ⟨a0, c0, c1⟩ r hF
  refine ⟨of_decide_eq_true rfl, ?_⟩
  refine st1 ?_
  rcases e_bif hF with ⟨hb, hF⟩ | ⟨hb, hF⟩ <;> rw [hb]
  · refine st1 ?_
    have hq : some _ = some _ := hF
    cases hq
    exact en1
  · refine st1 ?_
    have hq : some _ = some _ := hF
    cases hq
    exact en1


@[reducible] noncomputable def c_numbers_Within : Con := conF F_numbers_Within (fun x => match x with | (a0, a1, a2) => [(V.v (.int .i64 (a0))), (V.v (.int .i64 (a1))), (V.sl (recs (eI .i64) (a2)) (a2).length)]) (fun r => (V.v (.bool (r))))
theorem h_numbers_Within : Has Try.prog 57 c_numbers_Within := by
  refine hasF (ctx_cons (h_numbers_Every_int (ctx_cons h_numbers_Within_1 ctx_nil)) ctx_nil) mix Try.func57 rfl (by kernel_rfl) ?_
  rintro ⟨a0, a1, a2⟩ r hF
  refine ⟨of_decide_eq_true rfl, ?_⟩
  refine st1 ?_
  obtain ⟨_, h, hF⟩ := e_bind hF
  (first | refine g_hcall h lv1 (callable_conF rfl rfl (fun _ => rfl)) ?_ | refine g_hcallT h lv1 (callable_conF rfl rfl (fun _ => rfl)) ?_)
  (conv => arg 1; whnf)
  refine st1 ?_
  have hq : some _ = some _ := hF
  cases hq
  exact en1


@[reducible] noncomputable def c_numbers_Sum : Con := conF F_numbers_Sum (fun x => match x with | (a0) => [(V.sl (recs eTBounds (a0)) (a0).length)]) (fun r => (V.agg (eTBounds r)))
theorem h_numbers_Sum : Has Try.prog 68 c_numbers_Sum := by
  refine hasF ctx_nil mix Try.func68 rfl (by kernel_rfl) ?_
  rintro a0 r hF
  refine ⟨of_decide_eq_true rfl, ?_⟩
  refine st1 ?_
  refine st_loopF (e_assoc hF) () [(0, _), (2, _)] ⟨sT, sS, by rfl, by rfl⟩ ?_
  · rintro n ⟨_, _, _⟩ _ x hx1 hF
    (conv => arg 7; whnf); (conv => arg 8; whnf); (conv => arg 9; whnf)
    refine st1 ?_
    rcases e_bif hF with ⟨hb, hF⟩ | ⟨hb, hF⟩ <;> rw [hb]
    · refine st1 ?_
      obtain ⟨_, h, hF⟩ := e_bind hF
      (first | refine o_ia (enc := eTBounds) (s := 2) h (fun _ => rfl) (by decide) ?_ | refine o_iaT (enc := eTBounds) (s := 2) h (fun _ => rfl) (by decide) ?_)
      intro _
      refine st1 ?_
      exact k_loopF (e_some hF) hx1 () [(0, _), (2, _)] ⟨sT, sS, by rfl, by rfl⟩
    · refine st1 ?_
      have hF := e_some hF
      have hq : some _ = some _ := hF
      cases hq
      exact en1


@[reducible] noncomputable def c_numbers_Every_Reach (C : FuncId → Option Con) : Con := conK F_numbers_Every_Reach (fun x => match x with | (a0, a1, g, caps) => [(V.sl (recs eTReach (a0)) (a0).length), (V.fn g caps)]) (fun x => match x with | (a0, a1, g, caps) => Callable (ext C []) g caps (fun x => match x with | (q0) => [(V.agg (eTReach q0))]) (fun r => (V.v (.bool (r)))) a1) (fun r => (V.v (.bool (r))))
theorem h_numbers_Every_Reach {C : FuncId → Option Con} (hC : CtxOK Try.prog C) : Has Try.prog 58 (c_numbers_Every_Reach C) := by
  refine hasK (ext_nil hC) mix Try.func58 rfl (by kernel_rfl) ?_
  rintro ⟨a0, a1, g, caps⟩ r hcl hF
  obtain ⟨hcaps, c, hc, hce, hcall⟩ := id hcl
  refine ⟨of_decide_eq_true rfl, ?_⟩
  refine st1 ?_
  refine st_loopF (e_assoc hF) () [] ⟨sT, sS, by rfl, by rfl⟩ ?_
  · rintro n _ _ x hx1 hF
    (conv => arg 7; whnf); (conv => arg 8; whnf); (conv => arg 9; whnf)
    refine st1 ?_
    rcases e_bif hF with ⟨hb, hF⟩ | ⟨hb, hF⟩ <;> rw [hb]
    · refine st1 ?_
      obtain ⟨_, h, hF⟩ := e_bind hF
      (first | refine o_ia (enc := eTReach) (s := 9) h (fun _ => rfl) (by decide) ?_ | refine o_iaT (enc := eTReach) (s := 9) h (fun _ => rfl) (by decide) ?_)
      intro _
      refine st1 ?_
      obtain ⟨_, h, hF⟩ := e_bind hF
      rw [hc]
      (conv => arg 1; whnf)
      rw [hce]
      (conv => arg 1; whnf)
      (first | refine go_map hcaps rfl ?_ | refine goT_map hcaps rfl ?_)
      (conv => arg 1; whnf)
      obtain ⟨z, hz1, hz2, hz3⟩ := hcall _ _ h
      (first | refine go_exi z ⟨levs_eq hz1.symm, hz2⟩ ?_ | refine goT_exi z ⟨levs_eq hz1.symm, hz2⟩ ?_)
      rw [hz3]
      (conv => arg 1; whnf)
      refine st1 ?_
      rcases e_bif hF with ⟨hb, hF⟩ | ⟨hb, hF⟩ <;> rw [hb]
      · refine st1 ?_
        have hF := e_some hF
        have hq : some _ = some _ := hF
        cases hq
        exact en1
      · refine st1 ?_
        exact k_loopF (e_some hF) hx1 () [] ⟨sT, sS, by rfl, by rfl⟩
    · refine st1 ?_
      have hF := e_some hF
      have hq : some _ = some _ := hF
      cases hq
      exact en1


@[reducible] noncomputable def c_numbers_Valid : Con := conF F_numbers_Valid (fun x => match x with | (a0, a1, a2) => [(V.agg (eTBounds a0)), (V.v (.int .i64 (a1))), (V.v (.int .i64 (a2)))]) (fun r => (V.v (.bool (r))))
theorem h_numbers_Valid : Has Try.prog 63 c_numbers_Valid := by
  refine hasF (ctx_cons h_numbers_Within ctx_nil) mix Try.func63 rfl (by kernel_rfl) ?_
  rintro ⟨a0, a1, a2⟩ r hF
  refine ⟨of_decide_eq_true rfl, ?_⟩
  refine st1 ?_
  rcases e_bif hF with ⟨hb, hF⟩ | ⟨hb, hF⟩ <;> rw [hb]
  · refine st1 ?_
    obtain ⟨_, h, hF⟩ := e_bind hF
    (first | refine g_call h lv1 ?_ | refine g_callT h lv1 ?_)
    (conv => arg 1; whnf)
    refine st1 ?_
    have hq : some _ = some _ := hF
    cases hq
    exact en1
  · refine st1 ?_
    have hq : some _ = some _ := hF
    cases hq
    exact en1


@[reducible] noncomputable def c_river_validCurve_1 : Con := conF F_river_validCurve_1 (fun x => match x with | (a0, a1) => [(V.agg (eTRateRow a0)), (V.agg (eTRateRow a1))]) (fun r => (V.v (.bool (r))))
theorem h_river_validCurve_1 : Has Try.prog 101 c_river_validCurve_1 := by
  refine hasF ctx_nil mix Try.func101 rfl (by kernel_rfl) ?_
  rintro ⟨a0, a1⟩ r hF
  refine ⟨of_decide_eq_true rfl, ?_⟩
  refine st1 ?_
  rcases e_bif hF with ⟨hb, hF⟩ | ⟨hb, hF⟩ <;> rw [hb]
  · refine st1 ?_
    have hq : some _ = some _ := hF
    cases hq
    exact en1
  · refine st1 ?_
    have hq : some _ = some _ := hF
    cases hq
    exact en1


@[reducible] noncomputable def c_numbers_Every_RateRow (C : FuncId → Option Con) : Con := conK F_numbers_Every_RateRow (fun x => match x with | (a0, a1, g, caps) => [(V.sl (recs eTRateRow (a0)) (a0).length), (V.fn g caps)]) (fun x => match x with | (a0, a1, g, caps) => Callable (ext C []) g caps (fun x => match x with | (q0) => [(V.agg (eTRateRow q0))]) (fun r => (V.v (.bool (r)))) a1) (fun r => (V.v (.bool (r))))
theorem h_numbers_Every_RateRow {C : FuncId → Option Con} (hC : CtxOK Try.prog C) : Has Try.prog 102 (c_numbers_Every_RateRow C) := by
  refine hasK (ext_nil hC) mix Try.func102 rfl (by kernel_rfl) ?_
  rintro ⟨a0, a1, g, caps⟩ r hcl hF
  obtain ⟨hcaps, c, hc, hce, hcall⟩ := id hcl
  refine ⟨of_decide_eq_true rfl, ?_⟩
  refine st1 ?_
  refine st_loopF (e_assoc hF) () [] ⟨sT, sS, by rfl, by rfl⟩ ?_
  · rintro n _ _ x hx1 hF
    (conv => arg 7; whnf); (conv => arg 8; whnf); (conv => arg 9; whnf)
    refine st1 ?_
    rcases e_bif hF with ⟨hb, hF⟩ | ⟨hb, hF⟩ <;> rw [hb]
    · refine st1 ?_
      obtain ⟨_, h, hF⟩ := e_bind hF
      (first | refine o_ia (enc := eTRateRow) (s := 2) h (fun _ => rfl) (by decide) ?_ | refine o_iaT (enc := eTRateRow) (s := 2) h (fun _ => rfl) (by decide) ?_)
      intro _
      refine st1 ?_
      obtain ⟨_, h, hF⟩ := e_bind hF
      rw [hc]
      (conv => arg 1; whnf)
      rw [hce]
      (conv => arg 1; whnf)
      (first | refine go_map hcaps rfl ?_ | refine goT_map hcaps rfl ?_)
      (conv => arg 1; whnf)
      obtain ⟨z, hz1, hz2, hz3⟩ := hcall _ _ h
      (first | refine go_exi z ⟨levs_eq hz1.symm, hz2⟩ ?_ | refine goT_exi z ⟨levs_eq hz1.symm, hz2⟩ ?_)
      rw [hz3]
      (conv => arg 1; whnf)
      refine st1 ?_
      rcases e_bif hF with ⟨hb, hF⟩ | ⟨hb, hF⟩ <;> rw [hb]
      · refine st1 ?_
        have hF := e_some hF
        have hq : some _ = some _ := hF
        cases hq
        exact en1
      · refine st1 ?_
        exact k_loopF (e_some hF) hx1 () [] ⟨sT, sS, by rfl, by rfl⟩
    · refine st1 ?_
      have hF := e_some hF
      have hq : some _ = some _ := hF
      cases hq
      exact en1


@[reducible] noncomputable def c_river_validCurve_2 : Con := conF F_river_validCurve_2 (fun x => match x with | (a0) => [(V.agg (eTRateRow a0))]) (fun r => (V.v (.bool (r))))
theorem h_river_validCurve_2 : Has Try.prog 103 c_river_validCurve_2 := by
  refine hasF (ctx_cons h_numbers_Within ctx_nil) mix Try.func103 rfl (by kernel_rfl) ?_
  rintro a0 r hF
  refine ⟨of_decide_eq_true rfl, ?_⟩
  refine st1 ?_
  obtain ⟨_, h, hF⟩ := e_bind hF
  (first | refine g_call h lv1 ?_ | refine g_callT h lv1 ?_)
  (conv => arg 1; whnf)
  refine st1 ?_
  rcases e_bif hF with ⟨hb, hF⟩ | ⟨hb, hF⟩ <;> rw [hb]
  · refine st1 ?_
    obtain ⟨_, h, hF⟩ := e_bind hF
    (first | refine g_call h lv1 ?_ | refine g_callT h lv1 ?_)
    (conv => arg 1; whnf)
    refine st1 ?_
    have hq : some _ = some _ := hF
    cases hq
    exact en1
  · refine st1 ?_
    have hq : some _ = some _ := hF
    cases hq
    exact en1


@[reducible] noncomputable def c_river_validCurve : Con := conF F_river_validCurve (fun x => match x with | (a0) => [(V.sl (recs eTRateRow (a0)) (a0).length)]) (fun r => (V.v (.bool (r))))
theorem h_river_validCurve : Has Try.prog 90 c_river_validCurve := by
  refine hasF (ctx_cons (h_numbers_Every_RateRow (ctx_cons h_river_validCurve_2 ctx_nil)) (ctx_cons h_river_validCurve_1 (ctx_cons h_numbers_Within ctx_nil))) mix Try.func90 rfl (by kernel_rfl) ?_
  rintro a0 r hF
  refine ⟨of_decide_eq_true rfl, ?_⟩
  refine st1 ?_
  obtain ⟨_, h, hF⟩ := e_bind hF
  (first | refine g_call h lv1 ?_ | refine g_callT h lv1 ?_)
  (conv => arg 1; whnf)
  refine st1 ?_
  rcases e_bif hF with ⟨hb, hF⟩ | ⟨hb, hF⟩ <;> rw [hb]
  · refine st1 ?_
    have hq : some _ = some _ := hF
    cases hq
    exact en1
  · refine st1 ?_
    refine st_loopF (e_assoc hF) () [] ⟨sT, sS, by rfl, by rfl⟩ ?_
    · rintro n _ _ x hx1 hF
      (conv => arg 7; whnf); (conv => arg 8; whnf); (conv => arg 9; whnf)
      refine st1 ?_
      rcases e_bif hF with ⟨hb, hF⟩ | ⟨hb, hF⟩ <;> rw [hb]
      · refine st1 ?_
        obtain ⟨_, h, hF⟩ := e_bind hF
        (first | refine o_ia (enc := eTRateRow) (s := 2) h (fun _ => rfl) (by decide) ?_ | refine o_iaT (enc := eTRateRow) (s := 2) h (fun _ => rfl) (by decide) ?_)
        intro _
        refine st1 ?_
        obtain ⟨_, h, hF⟩ := e_bind hF
        (first | refine o_ia (enc := eTRateRow) (s := 2) h (fun _ => rfl) (by decide) ?_ | refine o_iaT (enc := eTRateRow) (s := 2) h (fun _ => rfl) (by decide) ?_)
        intro _
        refine st1 ?_
        obtain ⟨_, h, hF⟩ := e_bind hF
        (first | refine g_call h lv1 ?_ | refine g_callT h lv1 ?_)
        (conv => arg 1; whnf)
        refine st1 ?_
        rcases e_bif hF with ⟨hb, hF⟩ | ⟨hb, hF⟩ <;> rw [hb]
        · refine st1 ?_
          have hF := e_some hF
          have hq : some _ = some _ := hF
          cases hq
          exact en1
        · refine st1 ?_
          exact k_loopF (e_some hF) hx1 () [] ⟨sT, sS, by rfl, by rfl⟩
      · refine st1 ?_
        have hF := e_some hF
        obtain ⟨_, h, hF⟩ := e_bind hF
        (first | refine g_hcall h lv1 (callable_conF rfl rfl (fun _ => rfl)) ?_ | refine g_hcallT h lv1 (callable_conF rfl rfl (fun _ => rfl)) ?_)
        (conv => arg 1; whnf)
        refine st1 ?_
        have hq : some _ = some _ := hF
        cases hq
        exact en1


@[reducible] noncomputable def c_river_validReach : Con := conF F_river_validReach (fun x => match x with | (a0) => [(V.agg (eTReach a0))]) (fun r => (V.v (.bool (r))))
theorem h_river_validReach : Has Try.prog 59 c_river_validReach := by
  refine hasF (ctx_cons h_river_validCurve (ctx_cons h_numbers_Valid (ctx_cons h_numbers_Within ctx_nil))) mix Try.func59 rfl (by kernel_rfl) ?_
  rintro a0 r hF
  refine ⟨of_decide_eq_true rfl, ?_⟩
  refine st1 ?_
  obtain ⟨_, h, hF⟩ := e_bind hF
  (first | refine g_call h lv1 ?_ | refine g_callT h lv1 ?_)
  (conv => arg 1; whnf)
  refine st1 ?_
  rcases e_bif hF with ⟨hb, hF⟩ | ⟨hb, hF⟩ <;> rw [hb]
  · refine st1 ?_
    obtain ⟨_, h, hF⟩ := e_bind hF
    (first | refine g_call h lv1 ?_ | refine g_callT h lv1 ?_)
    (conv => arg 1; whnf)
    refine st1 ?_
    rcases e_bif hF with ⟨hb, hF⟩ | ⟨hb, hF⟩ <;> rw [hb]
    · refine st1 ?_
      obtain ⟨_, h, hF⟩ := e_bind hF
      (first | refine g_call h lv1 ?_ | refine g_callT h lv1 ?_)
      (conv => arg 1; whnf)
      refine st1 ?_
      rcases e_bif hF with ⟨hb, hF⟩ | ⟨hb, hF⟩ <;> rw [hb]
      · refine st1 ?_
        obtain ⟨_, h, hF⟩ := e_bind hF
        (first | refine g_call h lv1 ?_ | refine g_callT h lv1 ?_)
        (conv => arg 1; whnf)
        refine st1 ?_
        rcases e_bif hF with ⟨hb, hF⟩ | ⟨hb, hF⟩ <;> rw [hb]
        · refine st1 ?_
          obtain ⟨_, h, hF⟩ := e_bind hF
          (first | refine g_call h lv1 ?_ | refine g_callT h lv1 ?_)
          (conv => arg 1; whnf)
          refine st1 ?_
          rcases e_bif hF with ⟨hb, hF⟩ | ⟨hb, hF⟩ <;> rw [hb]
          · refine st1 ?_
            obtain ⟨_, h, hF⟩ := e_bind hF
            (first | refine g_call h lv1 ?_ | refine g_callT h lv1 ?_)
            (conv => arg 1; whnf)
            refine st1 ?_
            have hq : some _ = some _ := hF
            cases hq
            exact en1
          · refine st1 ?_
            have hq : some _ = some _ := hF
            cases hq
            exact en1
        · refine st1 ?_
          have hq : some _ = some _ := hF
          cases hq
          exact en1
      · refine st1 ?_
        have hq : some _ = some _ := hF
        cases hq
        exact en1
    · refine st1 ?_
      have hq : some _ = some _ := hF
      cases hq
      exact en1
  · refine st1 ?_
    have hq : some _ = some _ := hF
    cases hq
    exact en1


@[reducible] noncomputable def c_numbers_Every_Shoal (C : FuncId → Option Con) : Con := conK F_numbers_Every_Shoal (fun x => match x with | (a0, a1, g, caps) => [(V.sl (recs eTShoal (a0)) (a0).length), (V.fn g caps)]) (fun x => match x with | (a0, a1, g, caps) => Callable (ext C []) g caps (fun x => match x with | (q0) => [(V.agg (eTShoal q0))]) (fun r => (V.v (.bool (r)))) a1) (fun r => (V.v (.bool (r))))
theorem h_numbers_Every_Shoal {C : FuncId → Option Con} (hC : CtxOK Try.prog C) : Has Try.prog 60 (c_numbers_Every_Shoal C) := by
  refine hasK (ext_nil hC) mix Try.func60 rfl (by kernel_rfl) ?_
  rintro ⟨a0, a1, g, caps⟩ r hcl hF
  obtain ⟨hcaps, c, hc, hce, hcall⟩ := id hcl
  refine ⟨of_decide_eq_true rfl, ?_⟩
  refine st1 ?_
  refine st_loopF (e_assoc hF) () [] ⟨sT, sS, by rfl, by rfl⟩ ?_
  · rintro n _ _ x hx1 hF
    (conv => arg 7; whnf); (conv => arg 8; whnf); (conv => arg 9; whnf)
    refine st1 ?_
    rcases e_bif hF with ⟨hb, hF⟩ | ⟨hb, hF⟩ <;> rw [hb]
    · refine st1 ?_
      obtain ⟨_, h, hF⟩ := e_bind hF
      (first | refine o_ia (enc := eTShoal) (s := 6) h (fun _ => rfl) (by decide) ?_ | refine o_iaT (enc := eTShoal) (s := 6) h (fun _ => rfl) (by decide) ?_)
      intro _
      refine st1 ?_
      obtain ⟨_, h, hF⟩ := e_bind hF
      rw [hc]
      (conv => arg 1; whnf)
      rw [hce]
      (conv => arg 1; whnf)
      (first | refine go_map hcaps rfl ?_ | refine goT_map hcaps rfl ?_)
      (conv => arg 1; whnf)
      obtain ⟨z, hz1, hz2, hz3⟩ := hcall _ _ h
      (first | refine go_exi z ⟨levs_eq hz1.symm, hz2⟩ ?_ | refine goT_exi z ⟨levs_eq hz1.symm, hz2⟩ ?_)
      rw [hz3]
      (conv => arg 1; whnf)
      refine st1 ?_
      rcases e_bif hF with ⟨hb, hF⟩ | ⟨hb, hF⟩ <;> rw [hb]
      · refine st1 ?_
        have hF := e_some hF
        have hq : some _ = some _ := hF
        cases hq
        exact en1
      · refine st1 ?_
        exact k_loopF (e_some hF) hx1 () [] ⟨sT, sS, by rfl, by rfl⟩
    · refine st1 ?_
      have hF := e_some hF
      have hq : some _ = some _ := hF
      cases hq
      exact en1


@[reducible] noncomputable def c_river_find : Con := conF F_river_find (fun x => match x with | (a0, a1) => [(V.agg (eTRiver a0)), (V.v (.int .i64 (a1)))]) (fun r => V.tup [(V.agg (eTriver_site r.1)), (V.v (.bool (r.2)))])
theorem h_river_find : Has Try.prog 77 c_river_find := by
  refine hasF ctx_nil mix Try.func77 rfl (by kernel_rfl) ?_
  rintro ⟨a0, a1⟩ r hF
  refine ⟨of_decide_eq_true rfl, ?_⟩
  refine st1 ?_
  refine st_loopF (e_assoc hF) () [(0, _), (1, _)] ⟨sT, sS, by rfl, by rfl⟩ ?_
  · rintro n ⟨_, _⟩ _ x hx1 hF
    (conv => arg 7; whnf); (conv => arg 8; whnf); (conv => arg 9; whnf)
    refine st1 ?_
    rcases e_bif hF with ⟨hb, hF⟩ | ⟨hb, hF⟩ <;> rw [hb]
    · refine st1 ?_
      obtain ⟨_, h, hF⟩ := e_bind hF
      (first | refine o_ia (enc := eTReach) (s := 9) h (fun _ => rfl) (by decide) ?_ | refine o_iaT (enc := eTReach) (s := 9) h (fun _ => rfl) (by decide) ?_)
      intro _
      refine st1 ?_
      rcases e_bif hF with ⟨hb, hF⟩ | ⟨hb, hF⟩ <;> rw [hb]
      · refine st1 ?_
        rcases e_bif hF with ⟨hb, hF⟩ | ⟨hb, hF⟩ <;> rw [hb]
        · refine st1 ?_
          have hF := e_some hF
          have hq : some _ = some _ := hF
          cases hq
          exact en1
        · refine st1 ?_
          exact k_loopF (e_some hF) hx1 () [(0, _), (1, _)] ⟨sT, sS, by rfl, by rfl⟩
      · refine st1 ?_
        exact k_loopF (e_some hF) hx1 () [(0, _), (1, _)] ⟨sT, sS, by rfl, by rfl⟩
    · refine st1 ?_
      have hF := e_some hF
      have hq : some _ = some _ := hF
      cases hq
      exact en1


@[reducible] noncomputable def c_river_validShoal : Con := conF F_river_validShoal (fun x => match x with | (a0, a1) => [(V.agg (eTRiver a0)), (V.agg (eTShoal a1))]) (fun r => (V.v (.bool (r))))
theorem h_river_validShoal : Has Try.prog 62 c_river_validShoal := by
  refine hasF (ctx_cons h_river_find (ctx_cons h_numbers_Valid (ctx_cons h_numbers_Within ctx_nil))) mix Try.func62 rfl (by kernel_rfl) ?_
  rintro ⟨a0, a1⟩ r hF
  refine ⟨of_decide_eq_true rfl, ?_⟩
  refine st1 ?_
  obtain ⟨_, h, hF⟩ := e_bind hF
  (first | refine g_call h lv1 ?_ | refine g_callT h lv1 ?_)
  (conv => arg 1; whnf)
  refine st1 ?_
  rcases e_bif hF with ⟨hb, hF⟩ | ⟨hb, hF⟩ <;> rw [hb]
  · refine st1 ?_
    obtain ⟨_, h, hF⟩ := e_bind hF
    (first | refine g_call h lv1 ?_ | refine g_callT h lv1 ?_)
    (conv => arg 1; whnf)
    refine st1 ?_
    rcases e_bif hF with ⟨hb, hF⟩ | ⟨hb, hF⟩ <;> rw [hb]
    · refine st1 ?_
      obtain ⟨_, h, hF⟩ := e_bind hF
      (first | refine g_call h lv1 ?_ | refine g_callT h lv1 ?_)
      (conv => arg 1; whnf)
      refine st1 ?_
      rcases e_bif hF with ⟨hb, hF⟩ | ⟨hb, hF⟩ <;> rw [hb]
      · refine st1 ?_
        obtain ⟨_, h, hF⟩ := e_bind hF
        (first | refine g_call h lv1 ?_ | refine g_callT h lv1 ?_)
        (conv => arg 1; whnf)
        refine st1 ?_
        have hq : some _ = some _ := hF
        cases hq
        exact en1
      · refine st1 ?_
        have hq : some _ = some _ := hF
        cases hq
        exact en1
    · refine st1 ?_
      have hq : some _ = some _ := hF
      cases hq
      exact en1
  · refine st1 ?_
    have hq : some _ = some _ := hF
    cases hq
    exact en1


@[reducible] noncomputable def c_river_Check_1 : Con := conF F_river_Check_1 (fun x => match x with | (a0, c0) => [(V.agg (eTShoal a0)), (V.fptr [(V.sl (recs eTReach (c0.Reaches)) (c0.Reaches).length), (V.sl (recs eTShoal (c0.Shoals)) (c0.Shoals).length)])]) (fun r => (V.v (.bool (r))))
theorem h_river_Check_1 : Has Try.prog 61 c_river_Check_1 := by
  refine hasF (ctx_cons h_river_validShoal ctx_nil) mix Try.func61 rfl (by kernel_rfl) ?_
  rintro ⟨a0, c0⟩ r hF
  refine ⟨of_decide_eq_true rfl, ?_⟩
  refine st1 ?_
  obtain ⟨_, h, hF⟩ := e_bind hF
  (first | refine g_call h lv1 ?_ | refine g_callT h lv1 ?_)
  (conv => arg 1; whnf)
  refine st1 ?_
  have hq : some _ = some _ := hF
  cases hq
  exact en1


@[reducible] noncomputable def c_river_Check : Con := conF F_river_Check (fun x => match x with | (a0) => [(V.agg (eTRiver a0))]) (fun r => (V.v (.int .i64 (r))))
theorem h_river_Check : Has Try.prog 19 c_river_Check := by
  refine hasF (ctx_cons (h_numbers_Every_Shoal (ctx_cons h_river_Check_1 ctx_nil)) (ctx_cons (h_numbers_Every_Reach (ctx_cons h_river_validReach ctx_nil)) (ctx_cons h_numbers_Within ctx_nil))) mix Try.func19 rfl (by kernel_rfl) ?_
  rintro a0 r hF
  refine ⟨of_decide_eq_true rfl, ?_⟩
  refine st1 ?_
  obtain ⟨_, h, hF⟩ := e_bind hF
  (first | refine g_call h lv1 ?_ | refine g_callT h lv1 ?_)
  (conv => arg 1; whnf)
  refine st1 ?_
  rcases e_bif hF with ⟨hb, hF⟩ | ⟨hb, hF⟩ <;> rw [hb]
  · refine st1 ?_
    have hq : some _ = some _ := hF
    cases hq
    exact en1
  · refine st1 ?_
    obtain ⟨_, h, hF⟩ := e_bind hF
    (first | refine g_hcall h lv1 (callable_conF rfl rfl (fun _ => rfl)) ?_ | refine g_hcallT h lv1 (callable_conF rfl rfl (fun _ => rfl)) ?_)
    (conv => arg 1; whnf)
    refine st1 ?_
    rcases e_bif hF with ⟨hb, hF⟩ | ⟨hb, hF⟩ <;> rw [hb]
    · refine st1 ?_
      have hq : some _ = some _ := hF
      cases hq
      exact en1
    · refine st1 ?_
      rcases e_bif hF with ⟨hb, hF⟩ | ⟨hb, hF⟩ <;> rw [hb]
      · refine st1 ?_
        have hq : some _ = some _ := hF
        cases hq
        exact en1
      · refine st1 ?_
        obtain ⟨_, h, hF⟩ := e_bind hF
        (first | refine g_hcall h lv1 (callable_conF rfl rfl (fun _ => rfl)) ?_ | refine g_hcallT h lv1 (callable_conF rfl rfl (fun _ => rfl)) ?_)
        (conv => arg 1; whnf)
        refine st1 ?_
        rcases e_bif hF with ⟨hb, hF⟩ | ⟨hb, hF⟩ <;> rw [hb]
        · refine st1 ?_
          have hq : some _ = some _ := hF
          cases hq
          exact en1
        · refine st1 ?_
          have hq : some _ = some _ := hF
          cases hq
          exact en1


@[reducible] noncomputable def c_numbers_Every_L_Bounds (C : FuncId → Option Con) : Con := conK F_numbers_Every_L_Bounds (fun x => match x with | (a0, a1, g, caps) => [(V.sl (recs (eS eTBounds) (a0)) (a0).length), (V.fn g caps)]) (fun x => match x with | (a0, a1, g, caps) => Callable (ext C []) g caps (fun x => match x with | (q0) => [(V.sl (recs eTBounds (q0)) (q0).length)]) (fun r => (V.v (.bool (r)))) a1) (fun r => (V.v (.bool (r))))
theorem h_numbers_Every_L_Bounds {C : FuncId → Option Con} (hC : CtxOK Try.prog C) : Has Try.prog 106 (c_numbers_Every_L_Bounds C) := by
  refine hasK (ext_nil hC) mix Try.func106 rfl (by kernel_rfl) ?_
  rintro ⟨a0, a1, g, caps⟩ r hcl hF
  obtain ⟨hcaps, c, hc, hce, hcall⟩ := id hcl
  refine ⟨of_decide_eq_true rfl, ?_⟩
  refine st1 ?_
  refine st_loopF (e_assoc hF) () [] ⟨sT, sS, by rfl, by rfl⟩ ?_
  · rintro n _ _ x hx1 hF
    (conv => arg 7; whnf); (conv => arg 8; whnf); (conv => arg 9; whnf)
    refine st1 ?_
    rcases e_bif hF with ⟨hb, hF⟩ | ⟨hb, hF⟩ <;> rw [hb]
    · refine st1 ?_
      obtain ⟨_, h, hF⟩ := e_bind hF
      (first | refine o_ia (enc := (eS eTBounds)) (s := 1) h (fun _ => rfl) (by decide) ?_ | refine o_iaT (enc := (eS eTBounds)) (s := 1) h (fun _ => rfl) (by decide) ?_)
      intro _
      refine st1 ?_
      obtain ⟨_, h, hF⟩ := e_bind hF
      rw [hc]
      (conv => arg 1; whnf)
      rw [hce]
      (conv => arg 1; whnf)
      (first | refine go_map hcaps rfl ?_ | refine goT_map hcaps rfl ?_)
      (conv => arg 1; whnf)
      obtain ⟨z, hz1, hz2, hz3⟩ := hcall _ _ h
      (first | refine go_exi z ⟨levs_eq hz1.symm, hz2⟩ ?_ | refine goT_exi z ⟨levs_eq hz1.symm, hz2⟩ ?_)
      rw [hz3]
      (conv => arg 1; whnf)
      refine st1 ?_
      rcases e_bif hF with ⟨hb, hF⟩ | ⟨hb, hF⟩ <;> rw [hb]
      · refine st1 ?_
        have hF := e_some hF
        have hq : some _ = some _ := hF
        cases hq
        exact en1
      · refine st1 ?_
        exact k_loopF (e_some hF) hx1 () [] ⟨sT, sS, by rfl, by rfl⟩
    · refine st1 ?_
      have hF := e_some hF
      have hq : some _ = some _ := hF
      cases hq
      exact en1


@[reducible] noncomputable def c_river_checkForecast_1 : Con := conF F_river_checkForecast_1 (fun x => match x with | (a0, c0) => [(V.sl (recs eTBounds (a0)) (a0).length), (V.fptr [(V.v (.int .i64 (c0)))])]) (fun r => (V.v (.bool (r))))
theorem h_river_checkForecast_1 : Has Try.prog 107 c_river_checkForecast_1 := by
  refine hasF ctx_nil mix Try.func107 rfl (by kernel_rfl) ?_
  rintro ⟨a0, c0⟩ r hF
  refine ⟨of_decide_eq_true rfl, ?_⟩
  refine st1 ?_
  have hq : some _ = some _ := hF
  cases hq
  exact en1


@[reducible] noncomputable def c_river_checkForecast_2 : Con := conF F_river_checkForecast_2 (fun x => match x with | (a0) => [(V.agg (eTBounds a0))]) (fun r => (V.v (.bool (r))))
theorem h_river_checkForecast_2 : Has Try.prog 108 c_river_checkForecast_2 := by
  refine hasF (ctx_cons h_numbers_Valid ctx_nil) mix Try.func108 rfl (by kernel_rfl) ?_
  rintro a0 r hF
  refine ⟨of_decide_eq_true rfl, ?_⟩
  refine st1 ?_
  obtain ⟨_, h, hF⟩ := e_bind hF
  (first | refine g_call h lv1 ?_ | refine g_callT h lv1 ?_)
  (conv => arg 1; whnf)
  refine st1 ?_
  have hq : some _ = some _ := hF
  cases hq
  exact en1


@[reducible] noncomputable def c_numbers_Every_Bounds (C : FuncId → Option Con) : Con := conK F_numbers_Every_Bounds (fun x => match x with | (a0, a1, g, caps) => [(V.sl (recs eTBounds (a0)) (a0).length), (V.fn g caps)]) (fun x => match x with | (a0, a1, g, caps) => Callable (ext C []) g caps (fun x => match x with | (q0) => [(V.agg (eTBounds q0))]) (fun r => (V.v (.bool (r)))) a1) (fun r => (V.v (.bool (r))))
theorem h_numbers_Every_Bounds {C : FuncId → Option Con} (hC : CtxOK Try.prog C) : Has Try.prog 110 (c_numbers_Every_Bounds C) := by
  refine hasK (ext_nil hC) mix Try.func110 rfl (by kernel_rfl) ?_
  rintro ⟨a0, a1, g, caps⟩ r hcl hF
  obtain ⟨hcaps, c, hc, hce, hcall⟩ := id hcl
  refine ⟨of_decide_eq_true rfl, ?_⟩
  refine st1 ?_
  refine st_loopF (e_assoc hF) () [] ⟨sT, sS, by rfl, by rfl⟩ ?_
  · rintro n _ _ x hx1 hF
    (conv => arg 7; whnf); (conv => arg 8; whnf); (conv => arg 9; whnf)
    refine st1 ?_
    rcases e_bif hF with ⟨hb, hF⟩ | ⟨hb, hF⟩ <;> rw [hb]
    · refine st1 ?_
      obtain ⟨_, h, hF⟩ := e_bind hF
      (first | refine o_ia (enc := eTBounds) (s := 2) h (fun _ => rfl) (by decide) ?_ | refine o_iaT (enc := eTBounds) (s := 2) h (fun _ => rfl) (by decide) ?_)
      intro _
      refine st1 ?_
      obtain ⟨_, h, hF⟩ := e_bind hF
      rw [hc]
      (conv => arg 1; whnf)
      rw [hce]
      (conv => arg 1; whnf)
      (first | refine go_map hcaps rfl ?_ | refine goT_map hcaps rfl ?_)
      (conv => arg 1; whnf)
      obtain ⟨z, hz1, hz2, hz3⟩ := hcall _ _ h
      (first | refine go_exi z ⟨levs_eq hz1.symm, hz2⟩ ?_ | refine goT_exi z ⟨levs_eq hz1.symm, hz2⟩ ?_)
      rw [hz3]
      (conv => arg 1; whnf)
      refine st1 ?_
      rcases e_bif hF with ⟨hb, hF⟩ | ⟨hb, hF⟩ <;> rw [hb]
      · refine st1 ?_
        have hF := e_some hF
        have hq : some _ = some _ := hF
        cases hq
        exact en1
      · refine st1 ?_
        exact k_loopF (e_some hF) hx1 () [] ⟨sT, sS, by rfl, by rfl⟩
    · refine st1 ?_
      have hF := e_some hF
      have hq : some _ = some _ := hF
      cases hq
      exact en1


@[reducible] noncomputable def c_river_checkForecast_3 (C : FuncId → Option Con) : Con := conK F_river_checkForecast_3 (fun x => match x with | (a0, c0, g, caps) => [(V.sl (recs eTBounds (a0)) (a0).length), (V.fptr [(V.fn g caps)])]) (fun x => match x with | (a0, c0, g, caps) => Callable (ext C []) g caps (fun x => match x with | (q0) => [(V.agg (eTBounds q0))]) (fun r => (V.v (.bool (r)))) c0 ∧ Callable (ext C [(110, c_numbers_Every_Bounds C)]) g caps (fun x => match x with | (q0) => [(V.agg (eTBounds q0))]) (fun r => (V.v (.bool (r)))) c0) (fun r => (V.v (.bool (r))))
theorem h_river_checkForecast_3 {C : FuncId → Option Con} (hC : CtxOK Try.prog C) : Has Try.prog 109 (c_river_checkForecast_3 C) := by
  refine hasK (ext_cons (h_numbers_Every_Bounds hC) (ext_nil hC)) mix Try.func109 rfl (by kernel_rfl) ?_
  rintro ⟨a0, c0, g, caps⟩ r ⟨hc0, hcl⟩ hF
  obtain ⟨hcaps, c, hc, hce, hcall⟩ := id hcl
  refine ⟨of_decide_eq_true rfl, ?_⟩
  refine st1 ?_
  obtain ⟨_, h, hF⟩ := e_bind hF
  (first | refine go_map hcaps rfl ?_ | refine goT_map hcaps rfl ?_)
  (conv => arg 1; whnf)
  (first | refine g_hcall h lv1 (by exact hc0) ?_ | refine g_hcallT h lv1 (by exact hc0) ?_)
  (conv => arg 1; whnf)
  refine st1 ?_
  have hq : some _ = some _ := hF
  cases hq
  exact en1


@[reducible] noncomputable def c_river_checkForecast : Con := conF F_river_checkForecast (fun x => match x with | (a0, a1) => [(V.agg (eTRiver a0)), (V.sl (recs (eS eTBounds) (a1)) (a1).length)]) (fun r => (V.v (.int .i64 (r))))
theorem h_river_checkForecast : Has Try.prog 94 c_river_checkForecast := by
  refine hasF (ctx_cons (h_numbers_Every_L_Bounds (ctx_cons (h_river_checkForecast_3 (ctx_cons h_river_checkForecast_2 ctx_nil)) (ctx_cons h_river_checkForecast_1 ctx_nil))) ctx_nil) mix Try.func94 rfl (by kernel_rfl) ?_
  rintro ⟨a0, a1⟩ r hF
  refine ⟨of_decide_eq_true rfl, ?_⟩
  refine st1 ?_
  rcases e_bif hF with ⟨hb, hF⟩ | ⟨hb, hF⟩ <;> rw [hb]
  · refine st1 ?_
    have hq : some _ = some _ := hF
    cases hq
    exact en1
  · refine st1 ?_
    obtain ⟨_, h, hF⟩ := e_bind hF
    (first | refine o_ia (enc := (eS eTBounds)) (s := 1) h (fun _ => rfl) (by decide) ?_ | refine o_iaT (enc := (eS eTBounds)) (s := 1) h (fun _ => rfl) (by decide) ?_)
    intro _
    refine st1 ?_
    rcases e_bif hF with ⟨hb, hF⟩ | ⟨hb, hF⟩ <;> rw [hb]
    · refine st1 ?_
      have hq : some _ = some _ := hF
      cases hq
      exact en1
    · refine st1 ?_
      obtain ⟨_, h, hF⟩ := e_bind hF
      (first | refine g_hcall h lv1 (callable_conF rfl rfl (fun _ => rfl)) ?_ | refine g_hcallT h lv1 (callable_conF rfl rfl (fun _ => rfl)) ?_)
      (conv => arg 1; whnf)
      refine st1 ?_
      rcases e_bif hF with ⟨hb, hF⟩ | ⟨hb, hF⟩ <;> rw [hb]
      · refine st1 ?_
        have hq : some _ = some _ := hF
        cases hq
        exact en1
      · refine st1 ?_
        rcases e_bif hF with ⟨hb, hF⟩ | ⟨hb, hF⟩ <;> rw [hb]
        · refine st1 ?_
          have hq : some _ = some _ := hF
          cases hq
          exact en1
        · refine st1 ?_
          obtain ⟨_, h, hF⟩ := e_bind hF
          (first | refine g_hcall h lv1 (callable_conK rfl rfl (fun _ => rfl) (fun _ => ⟨callable_conF rfl rfl (fun _ => rfl), callable_conF rfl rfl (fun _ => rfl)⟩)) ?_ | refine g_hcallT h lv1 (callable_conK rfl rfl (fun _ => rfl) (fun _ => ⟨callable_conF rfl rfl (fun _ => rfl), callable_conF rfl rfl (fun _ => rfl)⟩)) ?_)
          (conv => arg 1; whnf)
          refine st1 ?_
          rcases e_bif hF with ⟨hb, hF⟩ | ⟨hb, hF⟩ <;> rw [hb]
          · refine st1 ?_
            have hq : some _ = some _ := hF
            cases hq
            exact en1
          · refine st1 ?_
            have hq : some _ = some _ := hF
            cases hq
            exact en1


@[reducible] noncomputable def c_river_stream_inflow : Con := conF F_river_stream_inflow (fun x => match x with | (a0, a1, a2) => [(V.agg (eTriver_stream a0)), (V.v (.int .i64 (a1))), (V.v (.int .i64 (a2)))]) (fun r => (V.agg (eTBounds r)))
theorem h_river_stream_inflow : Has Try.prog 95 c_river_stream_inflow := by
  refine hasF ctx_nil mix Try.func95 rfl (by kernel_rfl) ?_
  rintro ⟨a0, a1, a2⟩ r hF
  refine ⟨of_decide_eq_true rfl, ?_⟩
  refine st1 ?_
  rcases e_bif hF with ⟨hb, hF⟩ | ⟨hb, hF⟩ <;> rw [hb]
  · refine st1 ?_
    have hq : some _ = some _ := hF
    cases hq
    exact en1
  · refine st1 ?_
    obtain ⟨_, h, hF⟩ := e_bind hF
    (first | refine o_ia (enc := eTReach) (s := 9) h (fun _ => rfl) (by decide) ?_ | refine o_iaT (enc := eTReach) (s := 9) h (fun _ => rfl) (by decide) ?_)
    intro _
    refine st1 ?_
    rcases e_bif hF with ⟨hb, hF⟩ | ⟨hb, hF⟩ <;> rw [hb]
    · refine st1 ?_
      have hq : some _ = some _ := hF
      cases hq
      exact en1
    · refine st1 ?_
      obtain ⟨_, h, hF⟩ := e_bind hF
      (first | refine o_ia (enc := (eS eTBounds)) (s := 1) h (fun _ => rfl) (by decide) ?_ | refine o_iaT (enc := (eS eTBounds)) (s := 1) h (fun _ => rfl) (by decide) ?_)
      intro _
      refine st1 ?_
      obtain ⟨_, h, hF⟩ := e_bind hF
      (first | refine o_ia (enc := eTBounds) (s := 2) h (fun _ => rfl) (by decide) ?_ | refine o_iaT (enc := eTBounds) (s := 2) h (fun _ => rfl) (by decide) ?_)
      intro _
      refine st1 ?_
      have hq : some _ = some _ := hF
      cases hq
      exact en1


@[reducible] noncomputable def c_river_run : Con := conF F_river_run (fun x => match x with | (a0, a1) => [(V.agg (eTRiver a0)), (V.sl (recs (eS eTBounds) (a1)) (a1).length)]) (fun r => V.tup [(V.agg (eTriver_stream r.1)), (V.v (.int .i64 (r.2)))])
theorem h_river_run : Has Try.prog 74 c_river_run := by
  refine hasF (ctx_cons h_river_stream_inflow (ctx_cons h_river_checkForecast (ctx_cons h_numbers_Sum (ctx_cons h_river_Check ctx_nil)))) mix Try.func74 rfl (by kernel_rfl) ?_
  rintro ⟨a0, a1⟩ r hF
  refine ⟨of_decide_eq_true rfl, ?_⟩
  refine st1 ?_
  obtain ⟨_, h, hF⟩ := e_bind hF
  (first | refine g_call h lv1 ?_ | refine g_callT h lv1 ?_)
  (conv => arg 1; whnf)
  refine st1 ?_
  rcases e_bif hF with ⟨hb, hF⟩ | ⟨hb, hF⟩ <;> rw [hb]
  · refine st1 ?_
    have hq : some _ = some _ := hF
    cases hq
    exact en1
  · refine st1 ?_
    obtain ⟨_, h, hF⟩ := e_bind hF
    (first | refine g_call h lv1 ?_ | refine g_callT h lv1 ?_)
    (conv => arg 1; whnf)
    refine st1 ?_
    rcases e_bif hF with ⟨hb, hF⟩ | ⟨hb, hF⟩ <;> rw [hb]
    · refine st1 ?_
      have hq : some _ = some _ := hF
      cases hq
      exact en1
    · refine st1 ?_
      refine st_loopF (e_assoc hF) 0 [(1, _), (16, _)] ⟨sT, sS, by rfl, by rfl⟩ ?_
      · rintro n ⟨_, _⟩ _ x hx1 hF
        (conv => arg 7; whnf); (conv => arg 8; whnf); (conv => arg 9; whnf)
        refine st1 ?_
        rcases e_bif hF with ⟨hb, hF⟩ | ⟨hb, hF⟩ <;> rw [hb]
        · refine st1 ?_
          obtain ⟨_, h, hF⟩ := e_bind hF
          (first | refine o_ia (enc := (eS eTBounds)) (s := 1) h (fun _ => rfl) (by decide) ?_ | refine o_iaT (enc := (eS eTBounds)) (s := 1) h (fun _ => rfl) (by decide) ?_)
          intro _
          refine st1 ?_
          obtain ⟨_, h, hF⟩ := e_bind hF
          (first | refine o_mk (enc := eTBounds) (s := 2) h (by decide) rfl ?_ | refine o_mkT (enc := eTBounds) (s := 2) h (by decide) rfl ?_)
          refine st1 ?_
          refine st_loopF (e_assoc hF) _ [(1, _), (16, _), (17, _), (26, _)] ⟨sT, sS, by rfl, by rfl⟩ ?_
          · rintro n ⟨_, _⟩ _ x hx2 hF
            (conv => arg 7; whnf); (conv => arg 8; whnf); (conv => arg 9; whnf)
            refine st1 ?_
            rcases e_bif hF with ⟨hb, hF⟩ | ⟨hb, hF⟩ <;> rw [hb]
            · refine st1 ?_
              obtain ⟨_, h, hF⟩ := e_bind hF
              (first | refine o_ia (enc := eTBounds) (s := 2) h (fun _ => rfl) (by decide) ?_ | refine o_iaT (enc := eTBounds) (s := 2) h (fun _ => rfl) (by decide) ?_)
              intro _
              refine st1 ?_
              obtain ⟨_, h, hF⟩ := e_bind hF
              (first | refine g_call h lv1 ?_ | refine g_callT h lv1 ?_)
              (conv => arg 1; whnf)
              refine st1 ?_
              obtain ⟨_, h, hF⟩ := e_bind hF
              (first | refine g_call h lv1 ?_ | refine g_callT h lv1 ?_)
              (conv => arg 1; whnf)
              refine st1 ?_
              obtain ⟨_, hi37, hF⟩ := e_bind hF
              (first | refine go_req (oidx_ok hi37 (by decide)) ?_ | refine goT_req (oidx_ok hi37 (by decide)) ?_)
              (conv => arg 1; whnf)
              refine st1 ?_
              obtain ⟨_, h, hF⟩ := e_bind hF
              (first | refine o_stA (enc := eTBounds) (s := 2) hi37 h (fun _ => rfl) (by decide) rfl rfl ?_ | refine o_stB (enc := eTBounds) (s := 2) hi37 h (fun _ => rfl) (by decide) rfl rfl ?_ | refine o_stAT (enc := eTBounds) (s := 2) hi37 h (fun _ => rfl) (by decide) rfl rfl ?_)
              refine st1 ?_
              exact k_loopF (e_some hF) hx2 _ [(1, _), (16, _), (17, _), (26, _)] ⟨sT, sS, by rfl, by rfl⟩
            · refine st1 ?_
              have hF := e_some hF
              obtain ⟨_, h, hF⟩ := e_bind hF
              (first | refine o_app (enc := (eS eTBounds)) (s := 1) h (fun _ => rfl) ?_ | refine o_appT (enc := (eS eTBounds)) (s := 1) h (fun _ => rfl) ?_)
              refine st1 ?_
              exact k_loopF (e_some hF) hx1 _ [(1, _), (16, _), (17, _)] ⟨sT, sS, by rfl, by rfl⟩
        · refine st1 ?_
          have hF := e_some hF
          have hq : some _ = some _ := hF
          cases hq
          exact en1


@[reducible] noncomputable def c_river_stream_hours : Con := conF F_river_stream_hours (fun x => match x with | (a0) => [(V.agg (eTriver_stream a0))]) (fun r => (V.v (.int .i64 (r))))
theorem h_river_stream_hours : Has Try.prog 75 c_river_stream_hours := by
  refine hasF ctx_nil mix Try.func75 rfl (by kernel_rfl) ?_
  rintro a0 r hF
  refine ⟨of_decide_eq_true rfl, ?_⟩
  refine st1 ?_
  obtain ⟨_, h, hF⟩ := e_bind hF
  (first | refine o_ia (enc := (eS eTBounds)) (s := 1) h (fun _ => rfl) (by decide) ?_ | refine o_iaT (enc := (eS eTBounds)) (s := 1) h (fun _ => rfl) (by decide) ?_)
  intro _
  refine st1 ?_
  have hq : some _ = some _ := hF
  cases hq
  exact en1


@[reducible] noncomputable def c_river_Volume : Con := conF F_river_Volume (fun x => match x with | (a0, a1, a2, a3, a4) => [(V.agg (eTRiver a0)), (V.sl (recs (eS eTBounds) (a1)) (a1).length), (V.v (.int .i64 (a2))), (V.v (.int .i64 (a3))), (V.v (.int .i64 (a4)))]) (fun r => V.tup [(V.agg (eTBounds r.1)), (V.v (.int .i64 (r.2)))])
theorem h_river_Volume : Has Try.prog 36 c_river_Volume := by
  refine hasF (ctx_cons h_river_stream_hours (ctx_cons h_river_run (ctx_cons h_numbers_Sum (ctx_cons h_numbers_Within ctx_nil)))) mix Try.func36 rfl (by kernel_rfl) ?_
  rintro ⟨a0, a1, a2, a3, a4⟩ r hF
  refine ⟨of_decide_eq_true rfl, ?_⟩
  refine st1 ?_
  obtain ⟨_, h, hF⟩ := e_bind hF
  (first | refine g_call h lv1 ?_ | refine g_callT h lv1 ?_)
  (conv => arg 1; whnf)
  refine st1 ?_
  rcases e_bif hF with ⟨hb, hF⟩ | ⟨hb, hF⟩ <;> rw [hb]
  · refine st1 ?_
    have hq : some _ = some _ := hF
    cases hq
    exact en1
  · refine st1 ?_
    obtain ⟨_, h, hF⟩ := e_bind hF
    (first | refine g_call h lv1 ?_ | refine g_callT h lv1 ?_)
    (conv => arg 1; whnf)
    refine st1 ?_
    rcases e_bif hF with ⟨hb, hF⟩ | ⟨hb, hF⟩ <;> rw [hb]
    · refine st1 ?_
      have hq : some _ = some _ := hF
      cases hq
      exact en1
    · refine st1 ?_
      obtain ⟨_, h, hF⟩ := e_bind hF
      (first | refine g_call h lv1 ?_ | refine g_callT h lv1 ?_)
      (conv => arg 1; whnf)
      refine st1 ?_
      obtain ⟨_, h, hF⟩ := e_bind hF
      (first | refine g_call h lv1 ?_ | refine g_callT h lv1 ?_)
      (conv => arg 1; whnf)
      refine st1 ?_
      rcases e_bif hF with ⟨hb, hF⟩ | ⟨hb, hF⟩ <;> rw [hb]
      · refine st1 ?_
        have hq : some _ = some _ := hF
        cases hq
        exact en1
      · refine st1 ?_
        rcases e_bif hF with ⟨hb, hF⟩ | ⟨hb, hF⟩ <;> rw [hb]
        · refine st1 ?_
          have hq : some _ = some _ := hF
          cases hq
          exact en1
        · refine st1 ?_
          obtain ⟨_, h, hF⟩ := e_bind hF
          (first | refine o_ia (enc := (eS eTBounds)) (s := 1) h (fun _ => rfl) (by decide) ?_ | refine o_iaT (enc := (eS eTBounds)) (s := 1) h (fun _ => rfl) (by decide) ?_)
          intro _
          refine st1 ?_
          obtain ⟨_, h, hF⟩ := e_bind hF
          (first | refine o_slc (enc := eTBounds) (s := 2) h (fun _ => rfl) ?_ | refine o_slcT (enc := eTBounds) (s := 2) h (fun _ => rfl) ?_)
          refine st1 ?_
          obtain ⟨_, h, hF⟩ := e_bind hF
          (first | refine g_call h lv1 ?_ | refine g_callT h lv1 ?_)
          (conv => arg 1; whnf)
          refine st1 ?_
          have hq : some _ = some _ := hF
          cases hq
          exact en1


@[reducible] noncomputable def c_thalwegref01_Flow : Con := conF F_thalwegref01_Flow (fun x => match x with | (a0, a1, a2, a3) => [(V.agg (eTRiver a0)), (V.sl (recs (eS eTBounds) (a1)) (a1).length), (V.v (.int .i64 (a2))), (V.v (.int .i64 (a3)))]) (fun r => (V.agg (eTBounds r)))
theorem hS_thalwegref01_Flow (n : Nat) (ih : Has Try.prog 38 (conF (recN B_thalwegref01_Flow n) (fun x => match x with | (a0, a1, a2, a3) => [(V.agg (eTRiver a0)), (V.sl (recs (eS eTBounds) (a1)) (a1).length), (V.v (.int .i64 (a2))), (V.v (.int .i64 (a3)))]) (fun r => (V.agg (eTBounds r))))) : Has Try.prog 38 (conF (recN B_thalwegref01_Flow (n + 1)) (fun x => match x with | (a0, a1, a2, a3) => [(V.agg (eTRiver a0)), (V.sl (recs (eS eTBounds) (a1)) (a1).length), (V.v (.int .i64 (a2))), (V.v (.int .i64 (a3)))]) (fun r => (V.agg (eTBounds r)))) := by
  refine hasF (ctx_cons ih ctx_nil) mix Try.func38 rfl (by kernel_rfl) ?_
  rintro ⟨a0, a1, a2, a3⟩ r hF
  refine ⟨of_decide_eq_true rfl, ?_⟩
  replace hF : (B_thalwegref01_Flow (recN B_thalwegref01_Flow n) _).bind some = some r := hF
  refine st1 ?_
  rcases e_bif hF with ⟨hb, hF⟩ | ⟨hb, hF⟩ <;> rw [hb]
  · refine st1 ?_
    obtain ⟨_, h, hF⟩ := e_bind hF
    (first | refine o_ia (enc := eTReach) (s := 9) h (fun _ => rfl) (by decide) ?_ | refine o_iaT (enc := eTReach) (s := 9) h (fun _ => rfl) (by decide) ?_)
    intro _
    refine st1 ?_
    have hq : some _ = some _ := hF
    cases hq
    exact en1
  · refine st1 ?_
    obtain ⟨_, h, hF⟩ := e_bind hF
    (first | refine o_ia (enc := (eS eTBounds)) (s := 1) h (fun _ => rfl) (by decide) ?_ | refine o_iaT (enc := (eS eTBounds)) (s := 1) h (fun _ => rfl) (by decide) ?_)
    intro _
    refine st1 ?_
    obtain ⟨_, h, hF⟩ := e_bind hF
    (first | refine o_ia (enc := eTBounds) (s := 2) h (fun _ => rfl) (by decide) ?_ | refine o_iaT (enc := eTBounds) (s := 2) h (fun _ => rfl) (by decide) ?_)
    intro _
    refine st1 ?_
    rcases e_bif hF with ⟨hb, hF⟩ | ⟨hb, hF⟩ <;> rw [hb]
    · refine st1 ?_
      obtain ⟨_, h, hF⟩ := e_bind hF
      (first | refine o_ia (enc := eTReach) (s := 9) h (fun _ => rfl) (by decide) ?_ | refine o_iaT (enc := eTReach) (s := 9) h (fun _ => rfl) (by decide) ?_)
      intro _
      refine st1 ?_
      obtain ⟨_, h, hF⟩ := e_bind hF
      (first | refine g_call h lv1 ?_ | refine g_callT h lv1 ?_)
      (conv => arg 1; whnf)
      refine st1 ?_
      have hq : some _ = some _ := hF
      cases hq
      exact en1
    · refine st1 ?_
      have hq : some _ = some _ := hF
      cases hq
      exact en1

theorem hN_thalwegref01_Flow : ∀ n, Has Try.prog 38 (conF (recN B_thalwegref01_Flow n) (fun x => match x with | (a0, a1, a2, a3) => [(V.agg (eTRiver a0)), (V.sl (recs (eS eTBounds) (a1)) (a1).length), (V.v (.int .i64 (a2))), (V.v (.int .i64 (a3)))]) (fun r => (V.agg (eTBounds r))))
  | 0 => hasF ctx_nil mix Try.func38 rfl (by kernel_rfl) (fun x r hF => by cases hF)
  | n + 1 => hS_thalwegref01_Flow n (hN_thalwegref01_Flow n)
theorem h_thalwegref01_Flow : Has Try.prog 38 c_thalwegref01_Flow := has_fix hN_thalwegref01_Flow


@[reducible] noncomputable def c_thalweglaw01_RiverVolumes : Con := conF F_thalweglaw01_RiverVolumes (fun x => match x with | (a0, a1) => [(V.agg (eTthalweglaw01_Forecast a0)), (V.agg (eTanon65 a1))]) (fun r => (V.v (.bool (r))))
theorem fl_thalweglaw01_RiverVolumes_27 : flatOf Try.prog 9 27 = some [true, true] := by kernel_rfl
theorem eg_thalweglaw01_RiverVolumes_27 : Try.prog.eqGuardType Try.prog.depth 27 = false := by kernel_rfl
theorem ag_thalweglaw01_RiverVolumes_27 : aggOf Try.prog 27 = some true := by kernel_rfl
theorem h_thalweglaw01_RiverVolumes : Has Try.prog 6 c_thalweglaw01_RiverVolumes := by
  refine hasF (ctx_cons h_thalwegref01_Flow (ctx_cons h_thalwegref01_In (ctx_cons h_river_Volume (ctx_cons h_thalwegref01_Start (ctx_cons h_thalweglaw01_forecast (ctx_cons h_thalweglaw01_copied (ctx_cons h_thalweglaw01_known (ctx_cons h_thalweglaw01_large ctx_nil)))))))) mix Try.func6 rfl (by kernel_rfl) ?_
  rintro ⟨a0, a1⟩ r hF
  refine ⟨of_decide_eq_true rfl, ?_⟩
  refine st1 ?_
  obtain ⟨_, h, hF⟩ := e_bind hF
  (first | refine g_call h lv1 ?_ | refine g_callT h lv1 ?_)
  (conv => arg 1; whnf)
  refine st1 ?_
  rcases e_bif hF with ⟨hb, hF⟩ | ⟨hb, hF⟩ <;> rw [hb]
  · refine st1 ?_
    obtain ⟨_, h, hF⟩ := e_bind hF
    (first | refine g_call h lv1 ?_ | refine g_callT h lv1 ?_)
    (conv => arg 1; whnf)
    refine st1 ?_
    have hq : some _ = some _ := hF
    cases hq
    exact en1
  · refine st1 ?_
    obtain ⟨_, h, hF⟩ := e_bind hF
    (first | refine g_call h lv1 ?_ | refine g_callT h lv1 ?_)
    (conv => arg 1; whnf)
    refine st1 ?_
    obtain ⟨_, h, hF⟩ := e_bind hF
    (first | refine g_call h lv1 ?_ | refine g_callT h lv1 ?_)
    (conv => arg 1; whnf)
    refine st1 ?_
    obtain ⟨_, h, hF⟩ := e_bind hF
    (first | refine g_call h lv1 ?_ | refine g_callT h lv1 ?_)
    (conv => arg 1; whnf)
    refine st1 ?_
    obtain ⟨_, h, hF⟩ := e_bind hF
    (first | refine g_call h lv1 ?_ | refine g_callT h lv1 ?_)
    (conv => arg 1; whnf)
    refine st1 ?_
    rcases e_bif hF with ⟨hb, hF⟩ | ⟨hb, hF⟩ <;> rw [hb]
    · refine st1 ?_
      obtain ⟨_, h, hF⟩ := e_bind hF
      (first | refine g_call h lv1 ?_ | refine g_callT h lv1 ?_)
      (conv => arg 1; whnf)
      refine st1 ?_
      rcases e_bif hF with ⟨hb, hF⟩ | ⟨hb, hF⟩ <;> rw [hb]
      · refine st1 ?_
        rcases e_bif hF with ⟨hb, hF⟩ | ⟨hb, hF⟩ <;> rw [hb]
        · refine st1 ?_
          rw [fl_thalweglaw01_RiverVolumes_27, eg_thalweglaw01_RiverVolumes_27, ag_thalweglaw01_RiverVolumes_27]
          (conv => arg 1; whnf)
          refine st1 ?_
          rcases e_bif hF with ⟨hb, hF⟩ | ⟨hb, hF⟩ <;> rw [hb]
          · refine st1 ?_
            obtain ⟨_, h, hF⟩ := e_bind hF
            (first | refine g_call h lv1 ?_ | refine g_callT h lv1 ?_)
            (conv => arg 1; whnf)
            refine st1 ?_
            have hq : some _ = some _ := hF
            cases hq
            exact en1
          · refine st1 ?_
            have hq : some _ = some _ := hF
            cases hq
            exact en1
        · refine st1 ?_
          have hq : some _ = some _ := hF
          cases hq
          exact en1
      · refine st1 ?_
        rcases e_bif hF with ⟨hb, hF⟩ | ⟨hb, hF⟩ <;> rw [hb]
        · refine st1 ?_
          obtain ⟨_, h, hF⟩ := e_bind hF
          (first | refine g_call h lv1 ?_ | refine g_callT h lv1 ?_)
          (conv => arg 1; whnf)
          refine st1 ?_
          rcases e_bif hF with ⟨hb, hF⟩ | ⟨hb, hF⟩ <;> rw [hb]
          · refine st1 ?_
            rcases e_bif hF with ⟨hb, hF⟩ | ⟨hb, hF⟩ <;> rw [hb]
            · refine st1 ?_
              rw [fl_thalweglaw01_RiverVolumes_27, eg_thalweglaw01_RiverVolumes_27, ag_thalweglaw01_RiverVolumes_27]
              (conv => arg 1; whnf)
              refine st1 ?_
              rcases e_bif hF with ⟨hb, hF⟩ | ⟨hb, hF⟩ <;> rw [hb]
              · refine st1 ?_
                obtain ⟨_, h, hF⟩ := e_bind hF
                (first | refine g_call h lv1 ?_ | refine g_callT h lv1 ?_)
                (conv => arg 1; whnf)
                refine st1 ?_
                have hq : some _ = some _ := hF
                cases hq
                exact en1
              · refine st1 ?_
                have hq : some _ = some _ := hF
                cases hq
                exact en1
            · refine st1 ?_
              have hq : some _ = some _ := hF
              cases hq
              exact en1
          · refine st1 ?_
            obtain ⟨_, h, hF⟩ := e_bind hF
            (first | refine o_ia (enc := (eS eTBounds)) (s := 1) h (fun _ => rfl) (by decide) ?_ | refine o_iaT (enc := (eS eTBounds)) (s := 1) h (fun _ => rfl) (by decide) ?_)
            intro _
            refine st1 ?_
            rcases e_bif hF with ⟨hb, hF⟩ | ⟨hb, hF⟩ <;> rw [hb]
            · refine st1 ?_
              rcases e_bif hF with ⟨hb, hF⟩ | ⟨hb, hF⟩ <;> rw [hb]
              · refine st1 ?_
                rw [fl_thalweglaw01_RiverVolumes_27, eg_thalweglaw01_RiverVolumes_27, ag_thalweglaw01_RiverVolumes_27]
                (conv => arg 1; whnf)
                refine st1 ?_
                rcases e_bif hF with ⟨hb, hF⟩ | ⟨hb, hF⟩ <;> rw [hb]
                · refine st1 ?_
                  obtain ⟨_, h, hF⟩ := e_bind hF
                  (first | refine g_call h lv1 ?_ | refine g_callT h lv1 ?_)
                  (conv => arg 1; whnf)
                  refine st1 ?_
                  have hq : some _ = some _ := hF
                  cases hq
                  exact en1
                · refine st1 ?_
                  have hq : some _ = some _ := hF
                  cases hq
                  exact en1
              · refine st1 ?_
                have hq : some _ = some _ := hF
                cases hq
                exact en1
            · refine st1 ?_
              rcases e_bif hF with ⟨hb, hF⟩ | ⟨hb, hF⟩ <;> rw [hb]
              · refine st1 ?_
                rcases e_bif hF with ⟨hb, hF⟩ | ⟨hb, hF⟩ <;> rw [hb]
                · refine st1 ?_
                  rw [fl_thalweglaw01_RiverVolumes_27, eg_thalweglaw01_RiverVolumes_27, ag_thalweglaw01_RiverVolumes_27]
                  (conv => arg 1; whnf)
                  refine st1 ?_
                  rcases e_bif hF with ⟨hb, hF⟩ | ⟨hb, hF⟩ <;> rw [hb]
                  · refine st1 ?_
                    obtain ⟨_, h, hF⟩ := e_bind hF
                    (first | refine g_call h lv1 ?_ | refine g_callT h lv1 ?_)
                    (conv => arg 1; whnf)
                    refine st1 ?_
                    have hq : some _ = some _ := hF
                    cases hq
                    exact en1
                  · refine st1 ?_
                    have hq : some _ = some _ := hF
                    cases hq
                    exact en1
                · refine st1 ?_
                  have hq : some _ = some _ := hF
                  cases hq
                  exact en1
              · refine st1 ?_
                refine st_loopF (e_assoc hF) () [(0, _), (1, _), (21, _), (65, _)] ⟨sT, sS, by rfl, by rfl⟩ ?_
                · rintro n ⟨_, _, _⟩ _ x hx1 hF
                  (conv => arg 7; whnf); (conv => arg 8; whnf); (conv => arg 9; whnf)
                  refine st1 ?_
                  rcases e_bif hF with ⟨hb, hF⟩ | ⟨hb, hF⟩ <;> rw [hb]
                  · refine st1 ?_
                    obtain ⟨_, h, hF⟩ := e_bind hF
                    (first | refine g_call h lv1 ?_ | refine g_callT h lv1 ?_)
                    (conv => arg 1; whnf)
                    refine st1 ?_
                    exact k_loopF (e_some hF) hx1 () [(0, _), (1, _), (21, _), (65, _)] ⟨sT, sS, by rfl, by rfl⟩
                  · refine st1 ?_
                    have hF := e_some hF
                    rcases e_bif hF with ⟨hb, hF⟩ | ⟨hb, hF⟩ <;> rw [hb]
                    · refine st1 ?_
                      rw [fl_thalweglaw01_RiverVolumes_27, eg_thalweglaw01_RiverVolumes_27, ag_thalweglaw01_RiverVolumes_27]
                      (conv => arg 1; whnf)
                      refine st1 ?_
                      rcases e_bif hF with ⟨hb, hF⟩ | ⟨hb, hF⟩ <;> rw [hb]
                      · refine st1 ?_
                        obtain ⟨_, h, hF⟩ := e_bind hF
                        (first | refine g_call h lv1 ?_ | refine g_callT h lv1 ?_)
                        (conv => arg 1; whnf)
                        refine st1 ?_
                        have hq : some _ = some _ := hF
                        cases hq
                        exact en1
                      · refine st1 ?_
                        have hq : some _ = some _ := hF
                        cases hq
                        exact en1
                    · refine st1 ?_
                      have hq : some _ = some _ := hF
                      cases hq
                      exact en1
        · refine st1 ?_
          rcases e_bif hF with ⟨hb, hF⟩ | ⟨hb, hF⟩ <;> rw [hb]
          · refine st1 ?_
            rcases e_bif hF with ⟨hb, hF⟩ | ⟨hb, hF⟩ <;> rw [hb]
            · refine st1 ?_
              rw [fl_thalweglaw01_RiverVolumes_27, eg_thalweglaw01_RiverVolumes_27, ag_thalweglaw01_RiverVolumes_27]
              (conv => arg 1; whnf)
              refine st1 ?_
              rcases e_bif hF with ⟨hb, hF⟩ | ⟨hb, hF⟩ <;> rw [hb]
              · refine st1 ?_
                obtain ⟨_, h, hF⟩ := e_bind hF
                (first | refine g_call h lv1 ?_ | refine g_callT h lv1 ?_)
                (conv => arg 1; whnf)
                refine st1 ?_
                have hq : some _ = some _ := hF
                cases hq
                exact en1
              · refine st1 ?_
                have hq : some _ = some _ := hF
                cases hq
                exact en1
            · refine st1 ?_
              have hq : some _ = some _ := hF
              cases hq
              exact en1
          · refine st1 ?_
            refine st_loopF (e_assoc hF) () [(0, _), (1, _), (21, _), (65, _)] ⟨sT, sS, by rfl, by rfl⟩ ?_
            · rintro n ⟨_, _, _⟩ _ x hx1 hF
              (conv => arg 7; whnf); (conv => arg 8; whnf); (conv => arg 9; whnf)
              refine st1 ?_
              rcases e_bif hF with ⟨hb, hF⟩ | ⟨hb, hF⟩ <;> rw [hb]
              · refine st1 ?_
                obtain ⟨_, h, hF⟩ := e_bind hF
                (first | refine g_call h lv1 ?_ | refine g_callT h lv1 ?_)
                (conv => arg 1; whnf)
                refine st1 ?_
                exact k_loopF (e_some hF) hx1 () [(0, _), (1, _), (21, _), (65, _)] ⟨sT, sS, by rfl, by rfl⟩
              · refine st1 ?_
                have hF := e_some hF
                rcases e_bif hF with ⟨hb, hF⟩ | ⟨hb, hF⟩ <;> rw [hb]
                · refine st1 ?_
                  rw [fl_thalweglaw01_RiverVolumes_27, eg_thalweglaw01_RiverVolumes_27, ag_thalweglaw01_RiverVolumes_27]
                  (conv => arg 1; whnf)
                  refine st1 ?_
                  rcases e_bif hF with ⟨hb, hF⟩ | ⟨hb, hF⟩ <;> rw [hb]
                  · refine st1 ?_
                    obtain ⟨_, h, hF⟩ := e_bind hF
                    (first | refine g_call h lv1 ?_ | refine g_callT h lv1 ?_)
                    (conv => arg 1; whnf)
                    refine st1 ?_
                    have hq : some _ = some _ := hF
                    cases hq
                    exact en1
                  · refine st1 ?_
                    have hq : some _ = some _ := hF
                    cases hq
                    exact en1
                · refine st1 ?_
                  have hq : some _ = some _ := hF
                  cases hq
                  exact en1
    · refine st1 ?_
      rcases e_bif hF with ⟨hb, hF⟩ | ⟨hb, hF⟩ <;> rw [hb]
      · refine st1 ?_
        obtain ⟨_, h, hF⟩ := e_bind hF
        (first | refine g_call h lv1 ?_ | refine g_callT h lv1 ?_)
        (conv => arg 1; whnf)
        refine st1 ?_
        rcases e_bif hF with ⟨hb, hF⟩ | ⟨hb, hF⟩ <;> rw [hb]
        · refine st1 ?_
          rcases e_bif hF with ⟨hb, hF⟩ | ⟨hb, hF⟩ <;> rw [hb]
          · refine st1 ?_
            rw [fl_thalweglaw01_RiverVolumes_27, eg_thalweglaw01_RiverVolumes_27, ag_thalweglaw01_RiverVolumes_27]
            (conv => arg 1; whnf)
            refine st1 ?_
            rcases e_bif hF with ⟨hb, hF⟩ | ⟨hb, hF⟩ <;> rw [hb]
            · refine st1 ?_
              obtain ⟨_, h, hF⟩ := e_bind hF
              (first | refine g_call h lv1 ?_ | refine g_callT h lv1 ?_)
              (conv => arg 1; whnf)
              refine st1 ?_
              have hq : some _ = some _ := hF
              cases hq
              exact en1
            · refine st1 ?_
              have hq : some _ = some _ := hF
              cases hq
              exact en1
          · refine st1 ?_
            have hq : some _ = some _ := hF
            cases hq
            exact en1
        · refine st1 ?_
          obtain ⟨_, h, hF⟩ := e_bind hF
          (first | refine o_ia (enc := (eS eTBounds)) (s := 1) h (fun _ => rfl) (by decide) ?_ | refine o_iaT (enc := (eS eTBounds)) (s := 1) h (fun _ => rfl) (by decide) ?_)
          intro _
          refine st1 ?_
          rcases e_bif hF with ⟨hb, hF⟩ | ⟨hb, hF⟩ <;> rw [hb]
          · refine st1 ?_
            rcases e_bif hF with ⟨hb, hF⟩ | ⟨hb, hF⟩ <;> rw [hb]
            · refine st1 ?_
              rw [fl_thalweglaw01_RiverVolumes_27, eg_thalweglaw01_RiverVolumes_27, ag_thalweglaw01_RiverVolumes_27]
              (conv => arg 1; whnf)
              refine st1 ?_
              rcases e_bif hF with ⟨hb, hF⟩ | ⟨hb, hF⟩ <;> rw [hb]
              · refine st1 ?_
                obtain ⟨_, h, hF⟩ := e_bind hF
                (first | refine g_call h lv1 ?_ | refine g_callT h lv1 ?_)
                (conv => arg 1; whnf)
                refine st1 ?_
                have hq : some _ = some _ := hF
                cases hq
                exact en1
              · refine st1 ?_
                have hq : some _ = some _ := hF
                cases hq
                exact en1
            · refine st1 ?_
              have hq : some _ = some _ := hF
              cases hq
              exact en1
          · refine st1 ?_
            rcases e_bif hF with ⟨hb, hF⟩ | ⟨hb, hF⟩ <;> rw [hb]
            · refine st1 ?_
              rcases e_bif hF with ⟨hb, hF⟩ | ⟨hb, hF⟩ <;> rw [hb]
              · refine st1 ?_
                rw [fl_thalweglaw01_RiverVolumes_27, eg_thalweglaw01_RiverVolumes_27, ag_thalweglaw01_RiverVolumes_27]
                (conv => arg 1; whnf)
                refine st1 ?_
                rcases e_bif hF with ⟨hb, hF⟩ | ⟨hb, hF⟩ <;> rw [hb]
                · refine st1 ?_
                  obtain ⟨_, h, hF⟩ := e_bind hF
                  (first | refine g_call h lv1 ?_ | refine g_callT h lv1 ?_)
                  (conv => arg 1; whnf)
                  refine st1 ?_
                  have hq : some _ = some _ := hF
                  cases hq
                  exact en1
                · refine st1 ?_
                  have hq : some _ = some _ := hF
                  cases hq
                  exact en1
              · refine st1 ?_
                have hq : some _ = some _ := hF
                cases hq
                exact en1
            · refine st1 ?_
              refine st_loopF (e_assoc hF) () [(0, _), (1, _), (21, _), (65, _)] ⟨sT, sS, by rfl, by rfl⟩ ?_
              · rintro n ⟨_, _, _⟩ _ x hx1 hF
                (conv => arg 7; whnf); (conv => arg 8; whnf); (conv => arg 9; whnf)
                refine st1 ?_
                rcases e_bif hF with ⟨hb, hF⟩ | ⟨hb, hF⟩ <;> rw [hb]
                · refine st1 ?_
                  obtain ⟨_, h, hF⟩ := e_bind hF
                  (first | refine g_call h lv1 ?_ | refine g_callT h lv1 ?_)
                  (conv => arg 1; whnf)
                  refine st1 ?_
                  exact k_loopF (e_some hF) hx1 () [(0, _), (1, _), (21, _), (65, _)] ⟨sT, sS, by rfl, by rfl⟩
                · refine st1 ?_
                  have hF := e_some hF
                  rcases e_bif hF with ⟨hb, hF⟩ | ⟨hb, hF⟩ <;> rw [hb]
                  · refine st1 ?_
                    rw [fl_thalweglaw01_RiverVolumes_27, eg_thalweglaw01_RiverVolumes_27, ag_thalweglaw01_RiverVolumes_27]
                    (conv => arg 1; whnf)
                    refine st1 ?_
                    rcases e_bif hF with ⟨hb, hF⟩ | ⟨hb, hF⟩ <;> rw [hb]
                    · refine st1 ?_
                      obtain ⟨_, h, hF⟩ := e_bind hF
                      (first | refine g_call h lv1 ?_ | refine g_callT h lv1 ?_)
                      (conv => arg 1; whnf)
                      refine st1 ?_
                      have hq : some _ = some _ := hF
                      cases hq
                      exact en1
                    · refine st1 ?_
                      have hq : some _ = some _ := hF
                      cases hq
                      exact en1
                  · refine st1 ?_
                    have hq : some _ = some _ := hF
                    cases hq
                    exact en1
      · refine st1 ?_
        rcases e_bif hF with ⟨hb, hF⟩ | ⟨hb, hF⟩ <;> rw [hb]
        · refine st1 ?_
          rcases e_bif hF with ⟨hb, hF⟩ | ⟨hb, hF⟩ <;> rw [hb]
          · refine st1 ?_
            rw [fl_thalweglaw01_RiverVolumes_27, eg_thalweglaw01_RiverVolumes_27, ag_thalweglaw01_RiverVolumes_27]
            (conv => arg 1; whnf)
            refine st1 ?_
            rcases e_bif hF with ⟨hb, hF⟩ | ⟨hb, hF⟩ <;> rw [hb]
            · refine st1 ?_
              obtain ⟨_, h, hF⟩ := e_bind hF
              (first | refine g_call h lv1 ?_ | refine g_callT h lv1 ?_)
              (conv => arg 1; whnf)
              refine st1 ?_
              have hq : some _ = some _ := hF
              cases hq
              exact en1
            · refine st1 ?_
              have hq : some _ = some _ := hF
              cases hq
              exact en1
          · refine st1 ?_
            have hq : some _ = some _ := hF
            cases hq
            exact en1
        · refine st1 ?_
          refine st_loopF (e_assoc hF) () [(0, _), (1, _), (21, _), (65, _)] ⟨sT, sS, by rfl, by rfl⟩ ?_
          · rintro n ⟨_, _, _⟩ _ x hx1 hF
            (conv => arg 7; whnf); (conv => arg 8; whnf); (conv => arg 9; whnf)
            refine st1 ?_
            rcases e_bif hF with ⟨hb, hF⟩ | ⟨hb, hF⟩ <;> rw [hb]
            · refine st1 ?_
              obtain ⟨_, h, hF⟩ := e_bind hF
              (first | refine g_call h lv1 ?_ | refine g_callT h lv1 ?_)
              (conv => arg 1; whnf)
              refine st1 ?_
              exact k_loopF (e_some hF) hx1 () [(0, _), (1, _), (21, _), (65, _)] ⟨sT, sS, by rfl, by rfl⟩
            · refine st1 ?_
              have hF := e_some hF
              rcases e_bif hF with ⟨hb, hF⟩ | ⟨hb, hF⟩ <;> rw [hb]
              · refine st1 ?_
                rw [fl_thalweglaw01_RiverVolumes_27, eg_thalweglaw01_RiverVolumes_27, ag_thalweglaw01_RiverVolumes_27]
                (conv => arg 1; whnf)
                refine st1 ?_
                rcases e_bif hF with ⟨hb, hF⟩ | ⟨hb, hF⟩ <;> rw [hb]
                · refine st1 ?_
                  obtain ⟨_, h, hF⟩ := e_bind hF
                  (first | refine g_call h lv1 ?_ | refine g_callT h lv1 ?_)
                  (conv => arg 1; whnf)
                  refine st1 ?_
                  have hq : some _ = some _ := hF
                  cases hq
                  exact en1
                · refine st1 ?_
                  have hq : some _ = some _ := hF
                  cases hq
                  exact en1
              · refine st1 ?_
                have hq : some _ = some _ := hF
                cases hq
                exact en1

end Go.Ev
