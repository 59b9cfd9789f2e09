/- A part of the proof of HullSafes. -/
import Derived.Test.YtghleangoiogiaaGreatW4
/- The functions do what is said. -/
set_option linter.unusedVariables false
set_option linter.unusedSimpArgs false
namespace Go.Ev
open Go.Proofs
set_option maxHeartbeats 8000000
set_option maxRecDepth 100000
@[reducible] noncomputable def c_thalwegref02_Holds : Con := conF F_thalwegref02_Holds (fun x => match x with | (a0) => [(V.agg (eTHull a0))]) (fun r => (V.sl (recs eTHullHold (r)) (r).length))
theorem h_thalwegref02_Holds : Has Tryz.prog 52 c_thalwegref02_Holds := by
  refine hasF ctx_nil mix Tryz.func52 rfl (by kernel_rfl) ?_
  rintro a0 r hF
  refine ⟨of_decide_eq_true rfl, ?_⟩
  refine st1 ?_
  refine st_loopF (e_assoc hF) () [(0, _), (2, _)] ⟨sT, sS, by rfl, by rfl⟩ ?_
  · rintro n ⟨_, _, _⟩ _ x hx1 hF
    (conv => arg 7; whnf); (conv => arg 8; whnf); (conv => arg 9; whnf)
    refine st1 ?_
    rcases e_bif hF with ⟨hb9, hF⟩ | ⟨hb9, hF⟩ <;> (first | rw [hb9] | (conv => arg 7; rw [hb9]) | (conv => arg 9; rw [hb9]))
    · refine st1 ?_
      refine st_loopF (e_assoc hF) () [(0, _), (2, _)] ⟨sT, sS, by rfl, by rfl⟩ ?_
      · rintro n ⟨_, _⟩ _ x hx2 hF
        (conv => arg 7; whnf); (conv => arg 8; whnf); (conv => arg 9; whnf)
        refine st1 ?_
        obtain ⟨_, h, hF⟩ := e_bind hF
        (first | refine o_ia (enc := eTHullSection) (s := 5) h (fun _ => rfl) (by decide) ?_ | refine o_iaT (enc := eTHullSection) (s := 5) h (fun _ => rfl) (by decide) ?_)
        intro _
        refine st1 ?_
        rcases e_bif hF with ⟨hb12, hF⟩ | ⟨hb12, hF⟩ <;> (first | rw [hb12] | (conv => arg 7; rw [hb12]) | (conv => arg 9; rw [hb12]))
        · refine st1 ?_
          obtain ⟨_, h, hF⟩ := e_bind hF
          (first | refine o_ia (enc := eTHullSection) (s := 5) h (fun _ => rfl) (by decide) ?_ | refine o_iaT (enc := eTHullSection) (s := 5) h (fun _ => rfl) (by decide) ?_)
          intro _
          refine st1 ?_
          obtain ⟨_, h, hF⟩ := e_bind hF
          (first | refine o_ia (enc := eTHullHold) (s := 2) h (fun _ => rfl) (by decide) ?_ | refine o_iaT (enc := eTHullHold) (s := 2) h (fun _ => rfl) (by decide) ?_)
          intro _
          refine st1 ?_
          obtain ⟨_, h, hF⟩ := e_bind hF
          (first | refine o_app (enc := eTHullHold) (s := 2) h (fun _ => rfl) ?_ | refine o_appT (enc := eTHullHold) (s := 2) h (fun _ => rfl) ?_)
          refine st1 ?_
          exact k_loopF (e_some hF) hx2 () [(0, _), (2, _)] ⟨sT, sS, by rfl, by rfl⟩
        · refine st1 ?_
          have hF := e_some hF
          obtain ⟨_, h, hF⟩ := e_bind hF
          (first | refine o_ia (enc := eTHullSection) (s := 5) h (fun _ => rfl) (by decide) ?_ | refine o_iaT (enc := eTHullSection) (s := 5) h (fun _ => rfl) (by decide) ?_)
          intro _
          refine st1 ?_
          exact k_loopF (e_some hF) hx1 () [(0, _), (2, _)] ⟨sT, sS, by rfl, by rfl⟩
    · refine st1 ?_
      have hF := e_some hF
      have hq : some _ = some _ := hF
      cases hq
      exact en1


@[reducible] noncomputable def c_thalwegref01_In : Con := conF F_thalwegref01_In (fun x => match x with | (a0, a1, a2) => [(V.v (.int .i64 (a0))), (V.v (.int .i64 (a1))), (V.v (.int .i64 (a2)))]) (fun r => (V.v (.bool (r))))
theorem h_thalwegref01_In : Has Tryz.prog 53 c_thalwegref01_In := by
  refine hasF ctx_nil mix Tryz.func53 rfl (by kernel_rfl) ?_
  rintro ⟨a0, a1, a2⟩ r hF
  refine ⟨of_decide_eq_true rfl, ?_⟩
  refine st1 ?_
  rcases e_bif hF with ⟨hb1, hF⟩ | ⟨hb1, hF⟩ <;> (first | rw [hb1] | (conv => arg 7; rw [hb1]) | (conv => arg 9; rw [hb1]))
  · refine st1 ?_
    have hq : some _ = some _ := hF
    cases hq
    exact en1
  · refine st1 ?_
    have hq : some _ = some _ := hF
    cases hq
    exact en1


@[reducible] noncomputable def c_thalwegref02_Section : Con := conF F_thalwegref02_Section (fun x => match x with | (a0) => [(V.agg (eTHullSection a0))]) (fun r => (V.v (.bool (r))))
theorem fl_thalwegref02_Section_105 : flatOf Tryz.prog 9 105 = some [true, true] := by kernel_rfl
theorem eg_thalwegref02_Section_105 : Tryz.prog.eqGuardType Tryz.prog.depth 105 = false := by kernel_rfl
theorem ag_thalwegref02_Section_105 : aggOf Tryz.prog 105 = some true := by kernel_rfl
theorem h_thalwegref02_Section : Has Tryz.prog 81 c_thalwegref02_Section := by
  refine hasF (ctx_cons h_thalwegref01_In ctx_nil) mix Tryz.func81 rfl (by kernel_rfl) ?_
  rintro a0 r hF
  refine ⟨of_decide_eq_true rfl, ?_⟩
  refine st1 ?_
  obtain ⟨_, h, hF⟩ := e_bind hF
  (first | refine g_call h lv1 ?_ | refine g_callT h lv1 ?_)
  (conv => arg 1; whnf)
  refine st1 ?_
  rcases e_bif hF with ⟨hb1, hF⟩ | ⟨hb1, hF⟩ <;> (first | rw [hb1] | (conv => arg 7; rw [hb1]) | (conv => arg 9; rw [hb1]))
  · refine st1 ?_
    have hq : some _ = some _ := hF
    cases hq
    exact en1
  · refine st1 ?_
    obtain ⟨_, h, hF⟩ := e_bind hF
    (first | refine g_call h lv1 ?_ | refine g_callT h lv1 ?_)
    (conv => arg 1; whnf)
    refine st1 ?_
    rcases e_bif hF with ⟨hb2, hF⟩ | ⟨hb2, hF⟩ <;> (first | rw [hb2] | (conv => arg 7; rw [hb2]) | (conv => arg 9; rw [hb2]))
    · refine st1 ?_
      have hq : some _ = some _ := hF
      cases hq
      exact en1
    · refine st1 ?_
      obtain ⟨_, h, hF⟩ := e_bind hF
      (first | refine g_call h lv1 ?_ | refine g_callT h lv1 ?_)
      (conv => arg 1; whnf)
      refine st1 ?_
      rcases e_bif hF with ⟨hb3, hF⟩ | ⟨hb3, hF⟩ <;> (first | rw [hb3] | (conv => arg 7; rw [hb3]) | (conv => arg 9; rw [hb3]))
      · refine st1 ?_
        have hq : some _ = some _ := hF
        cases hq
        exact en1
      · refine st1 ?_
        obtain ⟨_, h, hF⟩ := e_bind hF
        (first | refine g_call h lv1 ?_ | refine g_callT h lv1 ?_)
        (conv => arg 1; whnf)
        refine st1 ?_
        rcases e_bif hF with ⟨hb4, hF⟩ | ⟨hb4, hF⟩ <;> (first | rw [hb4] | (conv => arg 7; rw [hb4]) | (conv => arg 9; rw [hb4]))
        · refine st1 ?_
          have hq : some _ = some _ := hF
          cases hq
          exact en1
        · refine st1 ?_
          refine st_loopF (e_assoc hF) () [(0, _)] ⟨sT, sS, by rfl, by rfl⟩ ?_
          · rintro n _ _ x hx1 hF
            (conv => arg 7; whnf); (conv => arg 8; whnf); (conv => arg 9; whnf)
            refine st1 ?_
            rcases e_bif hF with ⟨hb20, hF⟩ | ⟨hb20, hF⟩ <;> (first | rw [hb20] | (conv => arg 7; rw [hb20]) | (conv => arg 9; rw [hb20]))
            · refine st1 ?_
              obtain ⟨_, h, hF⟩ := e_bind hF
              (first | refine o_ia (enc := eTHullRow) (s := 2) h (fun _ => rfl) (by decide) ?_ | refine o_iaT (enc := eTHullRow) (s := 2) h (fun _ => rfl) (by decide) ?_)
              intro _
              refine st1 ?_
              obtain ⟨_, h, hF⟩ := e_bind hF
              (first | refine g_call h lv1 ?_ | refine g_callT h lv1 ?_)
              (conv => arg 1; whnf)
              refine st1 ?_
              rcases e_bif hF with ⟨hb21, hF⟩ | ⟨hb21, hF⟩ <;> (first | rw [hb21] | (conv => arg 7; rw [hb21]) | (conv => arg 9; rw [hb21]))
              · refine st1 ?_
                have hF := e_some hF
                have hq : some _ = some _ := hF
                cases hq
                exact en1
              · refine st1 ?_
                obtain ⟨_, h, hF⟩ := e_bind hF
                (first | refine o_ia (enc := eTHullRow) (s := 2) h (fun _ => rfl) (by decide) ?_ | refine o_iaT (enc := eTHullRow) (s := 2) h (fun _ => rfl) (by decide) ?_)
                intro _
                refine st1 ?_
                obtain ⟨_, h, hF⟩ := e_bind hF
                (first | refine g_call h lv1 ?_ | refine g_callT h lv1 ?_)
                (conv => arg 1; whnf)
                refine st1 ?_
                rcases e_bif hF with ⟨hb22, hF⟩ | ⟨hb22, hF⟩ <;> (first | rw [hb22] | (conv => arg 7; rw [hb22]) | (conv => arg 9; rw [hb22]))
                · refine st1 ?_
                  have hF := e_some hF
                  have hq : some _ = some _ := hF
                  cases hq
                  exact en1
                · refine st1 ?_
                  rcases e_bif hF with ⟨hb23, hF⟩ | ⟨hb23, hF⟩ <;> (first | rw [hb23] | (conv => arg 7; rw [hb23]) | (conv => arg 9; rw [hb23]))
                  · refine st1 ?_
                    obtain ⟨_, h, hF⟩ := e_bind hF
                    (first | refine o_ia (enc := eTHullRow) (s := 2) h (fun _ => rfl) (by decide) ?_ | refine o_iaT (enc := eTHullRow) (s := 2) h (fun _ => rfl) (by decide) ?_)
                    intro _
                    refine st1 ?_
                    rw [fl_thalwegref02_Section_105, eg_thalwegref02_Section_105, ag_thalwegref02_Section_105]
                    (conv => arg 1; whnf)
                    refine st1 ?_
                    rcases e_bif hF with ⟨hb24, hF⟩ | ⟨hb24, hF⟩ <;> (first | rw [hb24] | (conv => arg 7; rw [hb24]) | (conv => arg 9; rw [hb24]))
                    · refine st1 ?_
                      have hF := e_some hF
                      have hq : some _ = some _ := hF
                      cases hq
                      exact en1
                    · refine st1 ?_
                      rcases e_bif hF with ⟨hb25, hF⟩ | ⟨hb25, hF⟩ <;> (first | rw [hb25] | (conv => arg 7; rw [hb25]) | (conv => arg 9; rw [hb25]))
                      · refine st1 ?_
                        obtain ⟨_, h, hF⟩ := e_bind hF
                        (first | refine o_ia (enc := eTHullRow) (s := 2) h (fun _ => rfl) (by decide) ?_ | refine o_iaT (enc := eTHullRow) (s := 2) h (fun _ => rfl) (by decide) ?_)
                        intro _
                        refine st1 ?_
                        obtain ⟨_, h, hF⟩ := e_bind hF
                        (first | refine o_ia (enc := eTHullRow) (s := 2) h (fun _ => rfl) (by decide) ?_ | refine o_iaT (enc := eTHullRow) (s := 2) h (fun _ => rfl) (by decide) ?_)
                        intro _
                        refine st1 ?_
                        rcases e_bif hF with ⟨hb26, hF⟩ | ⟨hb26, hF⟩ <;> (first | rw [hb26] | (conv => arg 7; rw [hb26]) | (conv => arg 9; rw [hb26]))
                        · refine st1 ?_
                          have hF := e_some hF
                          have hq : some _ = some _ := hF
                          cases hq
                          exact en1
                        · refine st1 ?_
                          obtain ⟨_, h, hF⟩ := e_bind hF
                          (first | refine o_ia (enc := eTHullRow) (s := 2) h (fun _ => rfl) (by decide) ?_ | refine o_iaT (enc := eTHullRow) (s := 2) h (fun _ => rfl) (by decide) ?_)
                          intro _
                          refine st1 ?_
                          obtain ⟨_, h, hF⟩ := e_bind hF
                          (first | refine o_ia (enc := eTHullRow) (s := 2) h (fun _ => rfl) (by decide) ?_ | refine o_iaT (enc := eTHullRow) (s := 2) h (fun _ => rfl) (by decide) ?_)
                          intro _
                          refine st1 ?_
                          rcases e_bif hF with ⟨hb27, hF⟩ | ⟨hb27, hF⟩ <;> (first | rw [hb27] | (conv => arg 7; rw [hb27]) | (conv => arg 9; rw [hb27]))
                          · refine st1 ?_
                            have hF := e_some hF
                            have hq : some _ = some _ := hF
                            cases hq
                            exact en1
                          · refine st1 ?_
                            exact k_loopF (e_some hF) hx1 () [(0, _)] ⟨sT, sS, by rfl, by rfl⟩
                      · refine st1 ?_
                        exact k_loopF (e_some hF) hx1 () [(0, _)] ⟨sT, sS, by rfl, by rfl⟩
                  · refine st1 ?_
                    rcases e_bif hF with ⟨hb28, hF⟩ | ⟨hb28, hF⟩ <;> (first | rw [hb28] | (conv => arg 7; rw [hb28]) | (conv => arg 9; rw [hb28]))
                    · refine st1 ?_
                      obtain ⟨_, h, hF⟩ := e_bind hF
                      (first | refine o_ia (enc := eTHullRow) (s := 2) h (fun _ => rfl) (by decide) ?_ | refine o_iaT (enc := eTHullRow) (s := 2) h (fun _ => rfl) (by decide) ?_)
                      intro _
                      refine st1 ?_
                      obtain ⟨_, h, hF⟩ := e_bind hF
                      (first | refine o_ia (enc := eTHullRow) (s := 2) h (fun _ => rfl) (by decide) ?_ | refine o_iaT (enc := eTHullRow) (s := 2) h (fun _ => rfl) (by decide) ?_)
                      intro _
                      refine st1 ?_
                      rcases e_bif hF with ⟨hb29, hF⟩ | ⟨hb29, hF⟩ <;> (first | rw [hb29] | (conv => arg 7; rw [hb29]) | (conv => arg 9; rw [hb29]))
                      · refine st1 ?_
                        have hF := e_some hF
                        have hq : some _ = some _ := hF
                        cases hq
                        exact en1
                      · refine st1 ?_
                        obtain ⟨_, h, hF⟩ := e_bind hF
                        (first | refine o_ia (enc := eTHullRow) (s := 2) h (fun _ => rfl) (by decide) ?_ | refine o_iaT (enc := eTHullRow) (s := 2) h (fun _ => rfl) (by decide) ?_)
                        intro _
                        refine st1 ?_
                        obtain ⟨_, h, hF⟩ := e_bind hF
                        (first | refine o_ia (enc := eTHullRow) (s := 2) h (fun _ => rfl) (by decide) ?_ | refine o_iaT (enc := eTHullRow) (s := 2) h (fun _ => rfl) (by decide) ?_)
                        intro _
                        refine st1 ?_
                        rcases e_bif hF with ⟨hb30, hF⟩ | ⟨hb30, hF⟩ <;> (first | rw [hb30] | (conv => arg 7; rw [hb30]) | (conv => arg 9; rw [hb30]))
                        · refine st1 ?_
                          have hF := e_some hF
                          have hq : some _ = some _ := hF
                          cases hq
                          exact en1
                        · refine st1 ?_
                          exact k_loopF (e_some hF) hx1 () [(0, _)] ⟨sT, sS, by rfl, by rfl⟩
                    · refine st1 ?_
                      exact k_loopF (e_some hF) hx1 () [(0, _)] ⟨sT, sS, by rfl, by rfl⟩
            · refine st1 ?_
              have hF := e_some hF
              refine st_loopF (e_assoc hF) () [(0, _)] ⟨sT, sS, by rfl, by rfl⟩ ?_
              · rintro n _ _ x hx1 hF
                (conv => arg 7; whnf); (conv => arg 8; whnf); (conv => arg 9; whnf)
                refine st1 ?_
                rcases e_bif hF with ⟨hb37, hF⟩ | ⟨hb37, hF⟩ <;> (first | rw [hb37] | (conv => arg 7; rw [hb37]) | (conv => arg 9; rw [hb37]))
                · refine st1 ?_
                  obtain ⟨_, h, hF⟩ := e_bind hF
                  (first | refine o_ia (enc := eTHullHold) (s := 2) h (fun _ => rfl) (by decide) ?_ | refine o_iaT (enc := eTHullHold) (s := 2) h (fun _ => rfl) (by decide) ?_)
                  intro _
                  refine st1 ?_
                  obtain ⟨_, h, hF⟩ := e_bind hF
                  (first | refine g_call h lv1 ?_ | refine g_callT h lv1 ?_)
                  (conv => arg 1; whnf)
                  refine st1 ?_
                  rcases e_bif hF with ⟨hb38, hF⟩ | ⟨hb38, hF⟩ <;> (first | rw [hb38] | (conv => arg 7; rw [hb38]) | (conv => arg 9; rw [hb38]))
                  · refine st1 ?_
                    have hF := e_some hF
                    have hq : some _ = some _ := hF
                    cases hq
                    exact en1
                  · refine st1 ?_
                    obtain ⟨_, h, hF⟩ := e_bind hF
                    (first | refine o_ia (enc := eTHullHold) (s := 2) h (fun _ => rfl) (by decide) ?_ | refine o_iaT (enc := eTHullHold) (s := 2) h (fun _ => rfl) (by decide) ?_)
                    intro _
                    refine st1 ?_
                    obtain ⟨_, h, hF⟩ := e_bind hF
                    (first | refine g_call h lv1 ?_ | refine g_callT h lv1 ?_)
                    (conv => arg 1; whnf)
                    refine st1 ?_
                    rcases e_bif hF with ⟨hb39, hF⟩ | ⟨hb39, hF⟩ <;> (first | rw [hb39] | (conv => arg 7; rw [hb39]) | (conv => arg 9; rw [hb39]))
                    · refine st1 ?_
                      have hF := e_some hF
                      have hq : some _ = some _ := hF
                      cases hq
                      exact en1
                    · refine st1 ?_
                      exact k_loopF (e_some hF) hx1 () [(0, _)] ⟨sT, sS, by rfl, by rfl⟩
                · refine st1 ?_
                  have hF := e_some hF
                  have hq : some _ = some _ := hF
                  cases hq
                  exact en1


@[reducible] noncomputable def c_thalwegref02_Length : Con := conF F_thalwegref02_Length (fun x => match x with | (a0) => [(V.agg (eTHull a0))]) (fun r => (V.v (.int .i64 (r))))
theorem h_thalwegref02_Length : Has Tryz.prog 82 c_thalwegref02_Length := by
  refine hasF ctx_nil mix Tryz.func82 rfl (by kernel_rfl) ?_
  rintro a0 r hF
  refine ⟨of_decide_eq_true rfl, ?_⟩
  refine st1 ?_
  refine st_loopF (e_assoc hF) () [(0, _)] ⟨sT, sS, by rfl, by rfl⟩ ?_
  · rintro n ⟨_, _⟩ _ x hx1 hF
    (conv => arg 7; whnf); (conv => arg 8; whnf); (conv => arg 9; whnf)
    refine st1 ?_
    rcases e_bif hF with ⟨hb3, hF⟩ | ⟨hb3, hF⟩ <;> (first | rw [hb3] | (conv => arg 7; rw [hb3]) | (conv => arg 9; rw [hb3]))
    · refine st1 ?_
      obtain ⟨_, h, hF⟩ := e_bind hF
      (first | refine o_ia (enc := eTHullSection) (s := 5) h (fun _ => rfl) (by decide) ?_ | refine o_iaT (enc := eTHullSection) (s := 5) h (fun _ => rfl) (by decide) ?_)
      intro _
      refine st1 ?_
      exact k_loopF (e_some hF) hx1 () [(0, _)] ⟨sT, sS, by rfl, by rfl⟩
    · refine st1 ?_
      have hF := e_some hF
      have hq : some _ = some _ := hF
      cases hq
      exact en1


@[reducible] noncomputable def c_thalwegref02_Hull : Con := conF F_thalwegref02_Hull (fun x => match x with | (a0) => [(V.agg (eTHull a0))]) (fun r => (V.v (.bool (r))))
theorem h_thalwegref02_Hull : Has Tryz.prog 51 c_thalwegref02_Hull := by
  refine hasF (ctx_cons h_thalwegref02_Length (ctx_cons h_thalwegref02_Section (ctx_cons h_thalwegref01_In (ctx_cons h_thalwegref02_Holds ctx_nil)))) mix Tryz.func51 rfl (by kernel_rfl) ?_
  rintro a0 r hF
  refine ⟨of_decide_eq_true rfl, ?_⟩
  refine st1 ?_
  obtain ⟨_, h, hF⟩ := e_bind hF
  (first | refine g_call h lv1 ?_ | refine g_callT h lv1 ?_)
  (conv => arg 1; whnf)
  refine st1 ?_
  rcases e_bif hF with ⟨hb1, hF⟩ | ⟨hb1, hF⟩ <;> (first | rw [hb1] | (conv => arg 7; rw [hb1]) | (conv => arg 9; rw [hb1]))
  · refine st1 ?_
    have hq : some _ = some _ := hF
    cases hq
    exact en1
  · refine st1 ?_
    obtain ⟨_, h, hF⟩ := e_bind hF
    (first | refine g_call h lv1 ?_ | refine g_callT h lv1 ?_)
    (conv => arg 1; whnf)
    refine st1 ?_
    rcases e_bif hF with ⟨hb2, hF⟩ | ⟨hb2, hF⟩ <;> (first | rw [hb2] | (conv => arg 7; rw [hb2]) | (conv => arg 9; rw [hb2]))
    · refine st1 ?_
      have hq : some _ = some _ := hF
      cases hq
      exact en1
    · refine st1 ?_
      refine st_loopF (e_assoc hF) () [(0, _)] ⟨sT, sS, by rfl, by rfl⟩ ?_
      · rintro n _ _ x hx1 hF
        (conv => arg 7; whnf); (conv => arg 8; whnf); (conv => arg 9; whnf)
        refine st1 ?_
        rcases e_bif hF with ⟨hb7, hF⟩ | ⟨hb7, hF⟩ <;> (first | rw [hb7] | (conv => arg 7; rw [hb7]) | (conv => arg 9; rw [hb7]))
        · refine st1 ?_
          obtain ⟨_, h, hF⟩ := e_bind hF
          (first | refine o_ia (enc := eTHullSection) (s := 5) h (fun _ => rfl) (by decide) ?_ | refine o_iaT (enc := eTHullSection) (s := 5) h (fun _ => rfl) (by decide) ?_)
          intro _
          refine st1 ?_
          obtain ⟨_, h, hF⟩ := e_bind hF
          (first | refine g_call h lv1 ?_ | refine g_callT h lv1 ?_)
          (conv => arg 1; whnf)
          refine st1 ?_
          rcases e_bif hF with ⟨hb8, hF⟩ | ⟨hb8, hF⟩ <;> (first | rw [hb8] | (conv => arg 7; rw [hb8]) | (conv => arg 9; rw [hb8]))
          · refine st1 ?_
            have hF := e_some hF
            have hq : some _ = some _ := hF
            cases hq
            exact en1
          · refine st1 ?_
            exact k_loopF (e_some hF) hx1 () [(0, _)] ⟨sT, sS, by rfl, by rfl⟩
        · refine st1 ?_
          have hF := e_some hF
          obtain ⟨_, h, hF⟩ := e_bind hF
          (first | refine g_call h lv1 ?_ | refine g_callT h lv1 ?_)
          (conv => arg 1; whnf)
          refine st1 ?_
          rcases e_bif hF with ⟨hb9, hF⟩ | ⟨hb9, hF⟩ <;> (first | rw [hb9] | (conv => arg 7; rw [hb9]) | (conv => arg 9; rw [hb9]))
          · refine st1 ?_
            obtain ⟨_, h, hF⟩ := e_bind hF
            (first | refine g_call h lv1 ?_ | refine g_callT h lv1 ?_)
            (conv => arg 1; whnf)
            refine st1 ?_
            have hq : some _ = some _ := hF
            cases hq
            exact en1
          · refine st1 ?_
            have hq : some _ = some _ := hF
            cases hq
            exact en1


@[reducible] noncomputable def c_thalwegref01_Valid : Con := conF F_thalwegref01_Valid (fun x => match x with | (a0, a1, a2) => [(V.agg (eTBounds a0)), (V.v (.int .i64 (a1))), (V.v (.int .i64 (a2)))]) (fun r => (V.v (.bool (r))))
theorem h_thalwegref01_Valid : Has Tryz.prog 83 c_thalwegref01_Valid := by
  refine hasF (ctx_cons h_thalwegref01_In ctx_nil) mix Tryz.func83 rfl (by kernel_rfl) ?_
  rintro ⟨a0, a1, a2⟩ r hF
  refine ⟨of_decide_eq_true rfl, ?_⟩
  refine st1 ?_
  obtain ⟨_, h, hF⟩ := e_bind hF
  (first | refine g_call h lv1 ?_ | refine g_callT h lv1 ?_)
  (conv => arg 1; whnf)
  refine st1 ?_
  rcases e_bif hF with ⟨hb1, hF⟩ | ⟨hb1, hF⟩ <;> (first | rw [hb1] | (conv => arg 7; rw [hb1]) | (conv => arg 9; rw [hb1]))
  · refine st1 ?_
    obtain ⟨_, h, hF⟩ := e_bind hF
    (first | refine g_call h lv1 ?_ | refine g_callT h lv1 ?_)
    (conv => arg 1; whnf)
    refine st1 ?_
    have hq : some _ = some _ := hF
    cases hq
    exact en1
  · refine st1 ?_
    have hq : some _ = some _ := hF
    cases hq
    exact en1


@[reducible] noncomputable def c_thalwegref02_Density : Con := conF F_thalwegref02_Density (fun x => match x with | (a0) => [(V.agg (eTBounds a0))]) (fun r => (V.v (.bool (r))))
theorem h_thalwegref02_Density : Has Tryz.prog 54 c_thalwegref02_Density := by
  refine hasF (ctx_cons h_thalwegref01_Valid ctx_nil) mix Tryz.func54 rfl (by kernel_rfl) ?_
  rintro a0 r hF
  refine ⟨of_decide_eq_true rfl, ?_⟩
  refine st1 ?_
  obtain ⟨_, h, hF⟩ := e_bind hF
  (first | refine g_call h lv1 ?_ | refine g_callT h lv1 ?_)
  (conv => arg 1; whnf)
  refine st1 ?_
  have hq : some _ = some _ := hF
  cases hq
  exact en1


@[reducible] noncomputable def c_thalwegref02_Load : Con := conF F_thalwegref02_Load (fun x => match x with | (a0, a1, a2) => [(V.agg (eTHull a0)), (V.sl (recs (eI .i64) (a1)) (a1).length), (V.agg (eTBounds a2))]) (fun r => (V.v (.int .i64 (r))))
theorem h_thalwegref02_Load : Has Tryz.prog 28 c_thalwegref02_Load := by
  refine hasF (ctx_cons h_thalwegref02_Density (ctx_cons h_thalwegref01_In (ctx_cons h_thalwegref02_Holds (ctx_cons h_thalwegref02_Hull ctx_nil)))) mix Tryz.func28 rfl (by kernel_rfl) ?_
  rintro ⟨a0, a1, a2⟩ r hF
  refine ⟨of_decide_eq_true rfl, ?_⟩
  refine st1 ?_
  obtain ⟨_, h, hF⟩ := e_bind hF
  (first | refine g_call h lv1 ?_ | refine g_callT h lv1 ?_)
  (conv => arg 1; whnf)
  refine st1 ?_
  rcases e_bif hF with ⟨hb1, hF⟩ | ⟨hb1, hF⟩ <;> (first | rw [hb1] | (conv => arg 7; rw [hb1]) | (conv => arg 9; rw [hb1]))
  · refine st1 ?_
    have hq : some _ = some _ := hF
    cases hq
    exact en1
  · refine st1 ?_
    obtain ⟨_, h, hF⟩ := e_bind hF
    (first | refine g_call h lv1 ?_ | refine g_callT h lv1 ?_)
    (conv => arg 1; whnf)
    refine st1 ?_
    rcases e_bif hF with ⟨hb2, hF⟩ | ⟨hb2, hF⟩ <;> (first | rw [hb2] | (conv => arg 7; rw [hb2]) | (conv => arg 9; rw [hb2]))
    · refine st1 ?_
      have hq : some _ = some _ := hF
      cases hq
      exact en1
    · refine st1 ?_
      refine st_loopF (e_assoc hF) () [(1, _)] ⟨sT, sS, by rfl, by rfl⟩ ?_
      · rintro n _ _ x hx1 hF
        (conv => arg 7; whnf); (conv => arg 8; whnf); (conv => arg 9; whnf)
        refine st1 ?_
        rcases e_bif hF with ⟨hb7, hF⟩ | ⟨hb7, hF⟩ <;> (first | rw [hb7] | (conv => arg 7; rw [hb7]) | (conv => arg 9; rw [hb7]))
        · refine st1 ?_
          obtain ⟨_, h, hF⟩ := e_bind hF
          (first | refine o_ia (enc := (eI .i64)) (s := 1) h (fun _ => rfl) (by decide) ?_ | refine o_iaT (enc := (eI .i64)) (s := 1) h (fun _ => rfl) (by decide) ?_)
          intro _
          refine st1 ?_
          obtain ⟨_, h, hF⟩ := e_bind hF
          (first | refine o_ia (enc := eTHullHold) (s := 2) h (fun _ => rfl) (by decide) ?_ | refine o_iaT (enc := eTHullHold) (s := 2) h (fun _ => rfl) (by decide) ?_)
          intro _
          refine st1 ?_
          obtain ⟨_, h, hF⟩ := e_bind hF
          (first | refine g_call h lv1 ?_ | refine g_callT h lv1 ?_)
          (conv => arg 1; whnf)
          refine st1 ?_
          rcases e_bif hF with ⟨hb8, hF⟩ | ⟨hb8, hF⟩ <;> (first | rw [hb8] | (conv => arg 7; rw [hb8]) | (conv => arg 9; rw [hb8]))
          · refine st1 ?_
            have hF := e_some hF
            have hq : some _ = some _ := hF
            cases hq
            exact en1
          · refine st1 ?_
            exact k_loopF (e_some hF) hx1 () [(1, _)] ⟨sT, sS, by rfl, by rfl⟩
        · refine st1 ?_
          have hF := e_some hF
          obtain ⟨_, h, hF⟩ := e_bind hF
          (first | refine g_call h lv1 ?_ | refine g_callT h lv1 ?_)
          (conv => arg 1; whnf)
          refine st1 ?_
          rcases e_bif hF with ⟨hb9, hF⟩ | ⟨hb9, hF⟩ <;> (first | rw [hb9] | (conv => arg 7; rw [hb9]) | (conv => arg 9; rw [hb9]))
          · refine st1 ?_
            have hq : some _ = some _ := hF
            cases hq
            exact en1
          · refine st1 ?_
            have hq : some _ = some _ := hF
            cases hq
            exact en1


@[reducible] noncomputable def c_thalwegref02_Limit : Con := conF F_thalwegref02_Limit (fun x => match x with | (a0) => [(V.agg (eTHull a0))]) (fun r => (V.v (.int .i64 (r))))
theorem h_thalwegref02_Limit : Has Tryz.prog 58 c_thalwegref02_Limit := by
  refine hasF ctx_nil mix Tryz.func58 rfl (by kernel_rfl) ?_
  rintro a0 r hF
  refine ⟨of_decide_eq_true rfl, ?_⟩
  refine st1 ?_
  refine st_loopF (e_assoc hF) () [(0, _)] ⟨sT, sS, by rfl, by rfl⟩ ?_
  · rintro n ⟨_, _⟩ _ x hx1 hF
    (conv => arg 7; whnf); (conv => arg 8; whnf); (conv => arg 9; whnf)
    refine st1 ?_
    rcases e_bif hF with ⟨hb3, hF⟩ | ⟨hb3, hF⟩ <;> (first | rw [hb3] | (conv => arg 7; rw [hb3]) | (conv => arg 9; rw [hb3]))
    · refine st1 ?_
      obtain ⟨_, h, hF⟩ := e_bind hF
      (first | refine o_ia (enc := eTHullSection) (s := 5) h (fun _ => rfl) (by decide) ?_ | refine o_iaT (enc := eTHullSection) (s := 5) h (fun _ => rfl) (by decide) ?_)
      intro _
      refine st1 ?_
      obtain ⟨_, h, hF⟩ := e_bind hF
      (first | refine o_ia (enc := eTHullRow) (s := 2) h (fun _ => rfl) (by decide) ?_ | refine o_iaT (enc := eTHullRow) (s := 2) h (fun _ => rfl) (by decide) ?_)
      intro _
      refine st1 ?_
      exact k_loopF (e_some hF) hx1 () [(0, _)] ⟨sT, sS, by rfl, by rfl⟩
    · refine st1 ?_
      have hF := e_some hF
      have hq : some _ = some _ := hF
      cases hq
      exact en1


@[reducible] noncomputable def c_thalwegref01_Ceil : Con := conF F_thalwegref01_Ceil (fun x => match x with | (a0, a1) => [(V.v (.int .i64 (a0))), (V.v (.int .i64 (a1)))]) (fun r => (V.v (.int .i64 (r))))
theorem h_thalwegref01_Ceil : Has Tryz.prog 84 c_thalwegref01_Ceil := by
  refine hasF ctx_nil mix Tryz.func84 rfl (by kernel_rfl) ?_
  rintro ⟨a0, a1⟩ r hF
  refine ⟨of_decide_eq_true rfl, ?_⟩
  refine st1 ?_
  obtain ⟨_, h, hF⟩ := e_bind hF
  (first | refine go_req (nz_ne h) ?_ | refine goT_req (nz_ne h) ?_)
  (conv => arg 1; whnf)
  refine st1 ?_
  rcases e_bif hF with ⟨hb1, hF⟩ | ⟨hb1, hF⟩ <;> (first | rw [hb1] | (conv => arg 7; rw [hb1]) | (conv => arg 9; rw [hb1]))
  · refine st1 ?_
    have hq : some _ = some _ := hF
    cases hq
    exact en1
  · refine st1 ?_
    have hq : some _ = some _ := hF
    cases hq
    exact en1


@[reducible] noncomputable def c_thalwegref02_Mass : Con := conF F_thalwegref02_Mass (fun x => match x with | (a0, a1) => [(V.agg (eTHull a0)), (V.sl (recs (eI .i64) (a1)) (a1).length)]) (fun r => (V.v (.int .i64 (r))))
theorem h_thalwegref02_Mass : Has Tryz.prog 85 c_thalwegref02_Mass := by
  refine hasF ctx_nil mix Tryz.func85 rfl (by kernel_rfl) ?_
  rintro ⟨a0, a1⟩ r hF
  refine ⟨of_decide_eq_true rfl, ?_⟩
  refine st1 ?_
  refine st_loopF (e_assoc hF) () [(0, _)] ⟨sT, sS, by rfl, by rfl⟩ ?_
  · rintro n ⟨_, _⟩ _ x hx1 hF
    (conv => arg 7; whnf); (conv => arg 8; whnf); (conv => arg 9; whnf)
    refine st1 ?_
    rcases e_bif hF with ⟨hb3, hF⟩ | ⟨hb3, hF⟩ <;> (first | rw [hb3] | (conv => arg 7; rw [hb3]) | (conv => arg 9; rw [hb3]))
    · refine st1 ?_
      obtain ⟨_, h, hF⟩ := e_bind hF
      (first | refine o_ia (enc := eTHullSection) (s := 5) h (fun _ => rfl) (by decide) ?_ | refine o_iaT (enc := eTHullSection) (s := 5) h (fun _ => rfl) (by decide) ?_)
      intro _
      refine st1 ?_
      exact k_loopF (e_some hF) hx1 () [(0, _)] ⟨sT, sS, by rfl, by rfl⟩
    · refine st1 ?_
      have hF := e_some hF
      refine st_loopF (e_assoc hF) () [(0, _)] ⟨sT, sS, by rfl, by rfl⟩ ?_
      · rintro n ⟨_, _⟩ _ x hx1 hF
        (conv => arg 7; whnf); (conv => arg 8; whnf); (conv => arg 9; whnf)
        refine st1 ?_
        rcases e_bif hF with ⟨hb6, hF⟩ | ⟨hb6, hF⟩ <;> (first | rw [hb6] | (conv => arg 7; rw [hb6]) | (conv => arg 9; rw [hb6]))
        · refine st1 ?_
          obtain ⟨_, h, hF⟩ := e_bind hF
          (first | refine o_ia (enc := (eI .i64)) (s := 1) h (fun _ => rfl) (by decide) ?_ | refine o_iaT (enc := (eI .i64)) (s := 1) h (fun _ => rfl) (by decide) ?_)
          intro _
          refine st1 ?_
          exact k_loopF (e_some hF) hx1 () [(0, _)] ⟨sT, sS, by rfl, by rfl⟩
        · refine st1 ?_
          have hF := e_some hF
          have hq : some _ = some _ := hF
          cases hq
          exact en1


@[reducible] noncomputable def c_thalwegref02_Volume : Con := conF F_thalwegref02_Volume (fun x => match x with | (a0, a1) => [(V.agg (eTHull a0)), (V.v (.int .i64 (a1)))]) (fun r => (V.v (.int .i64 (r))))
theorem h_thalwegref02_Volume : Has Tryz.prog 86 c_thalwegref02_Volume := by
  refine hasF ctx_nil mix Tryz.func86 rfl (by kernel_rfl) ?_
  rintro ⟨a0, a1⟩ r hF
  refine ⟨of_decide_eq_true rfl, ?_⟩
  refine st1 ?_
  refine st_loopF (e_assoc hF) () [(0, _)] ⟨sT, sS, by rfl, by rfl⟩ ?_
  · rintro n ⟨_, _⟩ _ x hx1 hF
    (conv => arg 7; whnf); (conv => arg 8; whnf); (conv => arg 9; whnf)
    refine st1 ?_
    rcases e_bif hF with ⟨hb9, hF⟩ | ⟨hb9, hF⟩ <;> (first | rw [hb9] | (conv => arg 7; rw [hb9]) | (conv => arg 9; rw [hb9]))
    · refine st1 ?_
      obtain ⟨_, h, hF⟩ := e_bind hF
      (first | refine o_ia (enc := eTHullSection) (s := 5) h (fun _ => rfl) (by decide) ?_ | refine o_iaT (enc := eTHullSection) (s := 5) h (fun _ => rfl) (by decide) ?_)
      intro _
      refine st1 ?_
      refine st_loopF (e_assoc hF) () [(0, _)] ⟨sT, sS, by rfl, by rfl⟩ ?_
      · rintro n _ _ x hx2 hF
        (conv => arg 7; whnf); (conv => arg 8; whnf); (conv => arg 9; whnf)
        refine st1 ?_
        obtain ⟨_, h, hF⟩ := e_bind hF
        (first | refine o_ia (enc := eTHullRow) (s := 2) h (fun _ => rfl) (by decide) ?_ | refine o_iaT (enc := eTHullRow) (s := 2) h (fun _ => rfl) (by decide) ?_)
        intro _
        refine st1 ?_
        rcases e_bif hF with ⟨hb12, hF⟩ | ⟨hb12, hF⟩ <;> (first | rw [hb12] | (conv => arg 7; rw [hb12]) | (conv => arg 9; rw [hb12]))
        · refine st1 ?_
          exact k_loopF (e_some hF) hx2 () [(0, _)] ⟨sT, sS, by rfl, by rfl⟩
        · refine st1 ?_
          have hF := e_some hF
          obtain ⟨_, h, hF⟩ := e_bind hF
          (first | refine o_ia (enc := eTHullRow) (s := 2) h (fun _ => rfl) (by decide) ?_ | refine o_iaT (enc := eTHullRow) (s := 2) h (fun _ => rfl) (by decide) ?_)
          intro _
          refine st1 ?_
          obtain ⟨_, h, hF⟩ := e_bind hF
          (first | refine o_ia (enc := eTHullRow) (s := 2) h (fun _ => rfl) (by decide) ?_ | refine o_iaT (enc := eTHullRow) (s := 2) h (fun _ => rfl) (by decide) ?_)
          intro _
          refine st1 ?_
          obtain ⟨_, h, hF⟩ := e_bind hF
          (first | refine go_req (nz_ne h) ?_ | refine goT_req (nz_ne h) ?_)
          (conv => arg 1; whnf)
          refine st1 ?_
          exact k_loopF (e_some hF) hx1 () [(0, _)] ⟨sT, sS, by rfl, by rfl⟩
    · refine st1 ?_
      have hF := e_some hF
      have hq : some _ = some _ := hF
      cases hq
      exact en1


@[reducible] noncomputable def c_thalwegref02_Mean : Con := conF F_thalwegref02_Mean (fun x => match x with | (a0, a1, a2) => [(V.agg (eTHull a0)), (V.sl (recs (eI .i64) (a1)) (a1).length), (V.v (.int .i64 (a2)))]) (fun r => (V.v (.int .i64 (r))))
theorem h_thalwegref02_Mean : Has Tryz.prog 55 c_thalwegref02_Mean := by
  refine hasF (ctx_cons h_thalwegref02_Volume (ctx_cons h_thalwegref02_Mass (ctx_cons h_thalwegref01_Ceil (ctx_cons h_thalwegref02_Limit ctx_nil)))) mix Tryz.func55 rfl (by kernel_rfl) ?_
  rintro ⟨a0, a1, a2⟩ r hF
  refine ⟨of_decide_eq_true rfl, ?_⟩
  refine st1 ?_
  obtain ⟨_, h, hF⟩ := e_bind hF
  (first | refine g_call h lv1 ?_ | refine g_callT h lv1 ?_)
  (conv => arg 1; whnf)
  refine st1 ?_
  obtain ⟨_, h, hF⟩ := e_bind hF
  (first | refine g_call h lv1 ?_ | refine g_callT h lv1 ?_)
  (conv => arg 1; whnf)
  refine st1 ?_
  refine st_loopF (e_assoc hF) () [(0, _)] ⟨sT, sS, by rfl, by rfl⟩ ?_
  · rintro n _ _ x hx1 hF
    (conv => arg 7; whnf); (conv => arg 8; whnf); (conv => arg 9; whnf)
    refine st1 ?_
    obtain ⟨_, h, hF⟩ := e_bind hF
    (first | refine g_call h lv1 ?_ | refine g_callT h lv1 ?_)
    (conv => arg 1; whnf)
    refine st1 ?_
    rcases e_bif hF with ⟨hb5, hF⟩ | ⟨hb5, hF⟩ <;> (first | rw [hb5] | (conv => arg 7; rw [hb5]) | (conv => arg 9; rw [hb5]))
    · refine st1 ?_
      obtain ⟨_, h, hF⟩ := e_bind hF
      (first | refine g_call h lv1 ?_ | refine g_callT h lv1 ?_)
      (conv => arg 1; whnf)
      refine st1 ?_
      rcases e_bif hF with ⟨hb6, hF⟩ | ⟨hb6, hF⟩ <;> (first | rw [hb6] | (conv => arg 7; rw [hb6]) | (conv => arg 9; rw [hb6]))
      · refine st1 ?_
        have hF := e_some hF
        have hq : some _ = some _ := hF
        cases hq
        exact en1
      · refine st1 ?_
        exact k_loopF (e_some hF) hx1 () [(0, _)] ⟨sT, sS, by rfl, by rfl⟩
    · refine st1 ?_
      have hF := e_some hF
      have hq : some _ = some _ := hF
      cases hq
      exact en1


@[reducible] noncomputable def c_thalwegref02_Moment : Con := conF F_thalwegref02_Moment (fun x => match x with | (a0, a1) => [(V.agg (eTHull a0)), (V.sl (recs (eI .i64) (a1)) (a1).length)]) (fun r => (V.v (.int .i64 (r))))
theorem h_thalwegref02_Moment : Has Tryz.prog 57 c_thalwegref02_Moment := by
  refine hasF (ctx_cons h_thalwegref02_Length (ctx_cons h_thalwegref02_Holds ctx_nil)) mix Tryz.func57 rfl (by kernel_rfl) ?_
  rintro ⟨a0, a1⟩ r hF
  refine ⟨of_decide_eq_true rfl, ?_⟩
  refine st1 ?_
  obtain ⟨_, h, hF⟩ := e_bind hF
  (first | refine g_call h lv1 ?_ | refine g_callT h lv1 ?_)
  (conv => arg 1; whnf)
  refine st1 ?_
  obtain ⟨_, h, hF⟩ := e_bind hF
  (first | refine g_call h lv1 ?_ | refine g_callT h lv1 ?_)
  (conv => arg 1; whnf)
  refine st1 ?_
  refine st_loopF (e_assoc hF) () [(0, _)] ⟨sT, sS, by rfl, by rfl⟩ ?_
  · rintro n ⟨_, _, _⟩ _ x hx1 hF
    (conv => arg 7; whnf); (conv => arg 8; whnf); (conv => arg 9; whnf)
    refine st1 ?_
    rcases e_bif hF with ⟨hb3, hF⟩ | ⟨hb3, hF⟩ <;> (first | rw [hb3] | (conv => arg 7; rw [hb3]) | (conv => arg 9; rw [hb3]))
    · refine st1 ?_
      obtain ⟨_, h, hF⟩ := e_bind hF
      (first | refine o_ia (enc := eTHullSection) (s := 5) h (fun _ => rfl) (by decide) ?_ | refine o_iaT (enc := eTHullSection) (s := 5) h (fun _ => rfl) (by decide) ?_)
      intro _
      refine st1 ?_
      exact k_loopF (e_some hF) hx1 () [(0, _)] ⟨sT, sS, by rfl, by rfl⟩
    · refine st1 ?_
      have hF := e_some hF
      refine st_loopF (e_assoc hF) () [(0, _)] ⟨sT, sS, by rfl, by rfl⟩ ?_
      · rintro n ⟨_, _⟩ _ x hx1 hF
        (conv => arg 7; whnf); (conv => arg 8; whnf); (conv => arg 9; whnf)
        refine st1 ?_
        rcases e_bif hF with ⟨hb6, hF⟩ | ⟨hb6, hF⟩ <;> (first | rw [hb6] | (conv => arg 7; rw [hb6]) | (conv => arg 9; rw [hb6]))
        · refine st1 ?_
          obtain ⟨_, h, hF⟩ := e_bind hF
          (first | refine o_ia (enc := (eI .i64)) (s := 1) h (fun _ => rfl) (by decide) ?_ | refine o_iaT (enc := (eI .i64)) (s := 1) h (fun _ => rfl) (by decide) ?_)
          intro _
          refine st1 ?_
          obtain ⟨_, h, hF⟩ := e_bind hF
          (first | refine o_ia (enc := eTHullHold) (s := 2) h (fun _ => rfl) (by decide) ?_ | refine o_iaT (enc := eTHullHold) (s := 2) h (fun _ => rfl) (by decide) ?_)
          intro _
          refine st1 ?_
          exact k_loopF (e_some hF) hx1 () [(0, _)] ⟨sT, sS, by rfl, by rfl⟩
        · refine st1 ?_
          have hF := e_some hF
          have hq : some _ = some _ := hF
          cases hq
          exact en1


@[reducible] noncomputable def c_thalwegref02_Trim : Con := conF F_thalwegref02_Trim (fun x => match x with | (a0, a1) => [(V.agg (eTHull a0)), (V.sl (recs (eI .i64) (a1)) (a1).length)]) (fun r => (V.v (.int .i64 (r))))
theorem h_thalwegref02_Trim : Has Tryz.prog 56 c_thalwegref02_Trim := by
  refine hasF (ctx_cons h_thalwegref01_Ceil (ctx_cons h_thalwegref02_Moment ctx_nil)) mix Tryz.func56 rfl (by kernel_rfl) ?_
  rintro ⟨a0, a1⟩ r hF
  refine ⟨of_decide_eq_true rfl, ?_⟩
  refine st1 ?_
  obtain ⟨_, h, hF⟩ := e_bind hF
  (first | refine g_call h lv1 ?_ | refine g_callT h lv1 ?_)
  (conv => arg 1; whnf)
  refine st1 ?_
  refine st_loopF (e_assoc hF) () [(0, _)] ⟨sT, sS, by rfl, by rfl⟩ ?_
  · rintro n ⟨_, _⟩ _ x hx1 hF
    (conv => arg 7; whnf); (conv => arg 8; whnf); (conv => arg 9; whnf)
    refine st1 ?_
    rcases e_bif hF with ⟨hb3, hF⟩ | ⟨hb3, hF⟩ <;> (first | rw [hb3] | (conv => arg 7; rw [hb3]) | (conv => arg 9; rw [hb3]))
    · refine st1 ?_
      obtain ⟨_, h, hF⟩ := e_bind hF
      (first | refine o_ia (enc := eTHullSection) (s := 5) h (fun _ => rfl) (by decide) ?_ | refine o_iaT (enc := eTHullSection) (s := 5) h (fun _ => rfl) (by decide) ?_)
      intro _
      refine st1 ?_
      exact k_loopF (e_some hF) hx1 () [(0, _)] ⟨sT, sS, by rfl, by rfl⟩
    · refine st1 ?_
      have hF := e_some hF
      obtain ⟨_, h, hF⟩ := e_bind hF
      (first | refine g_call h lv1 ?_ | refine g_callT h lv1 ?_)
      (conv => arg 1; whnf)
      refine st1 ?_
      have hq : some _ = some _ := hF
      cases hq
      exact en1


@[reducible] noncomputable def c_thalwegref02_Float : Con := conF F_thalwegref02_Float (fun x => match x with | (a0, a1, a2) => [(V.agg (eTHull a0)), (V.sl (recs (eI .i64) (a1)) (a1).length), (V.agg (eTBounds a2))]) (fun r => V.tup [(V.agg (eTHullFloat r.1)), (V.v (.bool (r.2)))])
theorem h_thalwegref02_Float : Has Tryz.prog 29 c_thalwegref02_Float := by
  refine hasF (ctx_cons h_thalwegref02_Limit (ctx_cons h_thalwegref02_Moment (ctx_cons h_thalwegref02_Trim (ctx_cons h_thalwegref02_Mean ctx_nil)))) mix Tryz.func29 rfl (by kernel_rfl) ?_
  rintro ⟨a0, a1, a2⟩ r hF
  refine ⟨of_decide_eq_true rfl, ?_⟩
  refine st1 ?_
  obtain ⟨_, h, hF⟩ := e_bind hF
  (first | refine g_call h lv1 ?_ | refine g_callT h lv1 ?_)
  (conv => arg 1; whnf)
  refine st1 ?_
  obtain ⟨_, h, hF⟩ := e_bind hF
  (first | refine g_call h lv1 ?_ | refine g_callT h lv1 ?_)
  (conv => arg 1; whnf)
  refine st1 ?_
  obtain ⟨_, h, hF⟩ := e_bind hF
  (first | refine g_call h lv1 ?_ | refine g_callT h lv1 ?_)
  (conv => arg 1; whnf)
  refine st1 ?_
  obtain ⟨_, h, hF⟩ := e_bind hF
  (first | refine g_call h lv1 ?_ | refine g_callT h lv1 ?_)
  (conv => arg 1; whnf)
  refine st1 ?_
  rcases e_bif hF with ⟨hb1, hF⟩ | ⟨hb1, hF⟩ <;> (first | rw [hb1] | (conv => arg 7; rw [hb1]) | (conv => arg 9; rw [hb1]))
  · refine st1 ?_
    have hq : some _ = some _ := hF
    cases hq
    exact en1
  · refine st1 ?_
    obtain ⟨_, h, hF⟩ := e_bind hF
    (first | refine g_call h lv1 ?_ | refine g_callT h lv1 ?_)
    (conv => arg 1; whnf)
    refine st1 ?_
    rcases e_bif hF with ⟨hb2, hF⟩ | ⟨hb2, hF⟩ <;> (first | rw [hb2] | (conv => arg 7; rw [hb2]) | (conv => arg 9; rw [hb2]))
    · refine st1 ?_
      have hq : some _ = some _ := hF
      cases hq
      exact en1
    · refine st1 ?_
      rcases e_bif hF with ⟨hb3, hF⟩ | ⟨hb3, hF⟩ <;> (first | rw [hb3] | (conv => arg 7; rw [hb3]) | (conv => arg 9; rw [hb3]))
      · refine st1 ?_
        rcases e_bif hF with ⟨hb4, hF⟩ | ⟨hb4, hF⟩ <;> (first | rw [hb4] | (conv => arg 7; rw [hb4]) | (conv => arg 9; rw [hb4]))
        · refine st1 ?_
          have hq : some _ = some _ := hF
          cases hq
          exact en1
        · refine st1 ?_
          have hq : some _ = some _ := hF
          cases hq
          exact en1
      · refine st1 ?_
        rcases e_bif hF with ⟨hb5, hF⟩ | ⟨hb5, hF⟩ <;> (first | rw [hb5] | (conv => arg 7; rw [hb5]) | (conv => arg 9; rw [hb5]))
        · refine st1 ?_
          have hq : some _ = some _ := hF
          cases hq
          exact en1
        · refine st1 ?_
          have hq : some _ = some _ := hF
          cases hq
          exact en1


@[reducible] noncomputable def c_thalwegref01_Places : Con := conF F_thalwegref01_Places (fun x => match x with | (a0) => [(V.agg (eTRiver a0))]) (fun r => (V.v (.int .i64 (r))))
theorem h_thalwegref01_Places : Has Tryz.prog 88 c_thalwegref01_Places := by
  refine hasF ctx_nil mix Tryz.func88 rfl (by kernel_rfl) ?_
  rintro a0 r hF
  refine ⟨of_decide_eq_true rfl, ?_⟩
  refine st1 ?_
  refine st_loopF (e_assoc hF) () [(0, _)] ⟨sT, sS, by rfl, by rfl⟩ ?_
  · rintro n ⟨_, _⟩ _ x hx1 hF
    (conv => arg 7; whnf); (conv => arg 8; whnf); (conv => arg 9; whnf)
    refine st1 ?_
    rcases e_bif hF with ⟨hb3, hF⟩ | ⟨hb3, hF⟩ <;> (first | rw [hb3] | (conv => arg 7; rw [hb3]) | (conv => arg 9; rw [hb3]))
    · refine st1 ?_
      obtain ⟨_, h, hF⟩ := e_bind hF
      (first | refine o_ia (enc := eTReach) (s := 9) h (fun _ => rfl) (by decide) ?_ | refine o_iaT (enc := eTReach) (s := 9) h (fun _ => rfl) (by decide) ?_)
      intro _
      refine st1 ?_
      exact k_loopF (e_some hF) hx1 () [(0, _)] ⟨sT, sS, by rfl, by rfl⟩
    · refine st1 ?_
      have hF := e_some hF
      have hq : some _ = some _ := hF
      cases hq
      exact en1


@[reducible] noncomputable def c_thalwegref01_Reach : Con := conF F_thalwegref01_Reach (fun x => match x with | (a0) => [(V.agg (eTReach a0))]) (fun r => (V.v (.bool (r))))
theorem h_thalwegref01_Reach : Has Tryz.prog 111 c_thalwegref01_Reach := by
  refine hasF (ctx_cons h_thalwegref01_Valid (ctx_cons h_thalwegref01_In ctx_nil)) mix Tryz.func111 rfl (by kernel_rfl) ?_
  rintro a0 r hF
  refine ⟨of_decide_eq_true rfl, ?_⟩
  refine st1 ?_
  obtain ⟨_, h, hF⟩ := e_bind hF
  (first | refine g_call h lv1 ?_ | refine g_callT h lv1 ?_)
  (conv => arg 1; whnf)
  refine st1 ?_
  rcases e_bif hF with ⟨hb1, hF⟩ | ⟨hb1, hF⟩ <;> (first | rw [hb1] | (conv => arg 7; rw [hb1]) | (conv => arg 9; rw [hb1]))
  · refine st1 ?_
    have hq : some _ = some _ := hF
    cases hq
    exact en1
  · refine st1 ?_
    obtain ⟨_, h, hF⟩ := e_bind hF
    (first | refine g_call h lv1 ?_ | refine g_callT h lv1 ?_)
    (conv => arg 1; whnf)
    refine st1 ?_
    rcases e_bif hF with ⟨hb2, hF⟩ | ⟨hb2, hF⟩ <;> (first | rw [hb2] | (conv => arg 7; rw [hb2]) | (conv => arg 9; rw [hb2]))
    · refine st1 ?_
      have hq : some _ = some _ := hF
      cases hq
      exact en1
    · refine st1 ?_
      obtain ⟨_, h, hF⟩ := e_bind hF
      (first | refine g_call h lv1 ?_ | refine g_callT h lv1 ?_)
      (conv => arg 1; whnf)
      refine st1 ?_
      rcases e_bif hF with ⟨hb3, hF⟩ | ⟨hb3, hF⟩ <;> (first | rw [hb3] | (conv => arg 7; rw [hb3]) | (conv => arg 9; rw [hb3]))
      · refine st1 ?_
        have hq : some _ = some _ := hF
        cases hq
        exact en1
      · refine st1 ?_
        obtain ⟨_, h, hF⟩ := e_bind hF
        (first | refine g_call h lv1 ?_ | refine g_callT h lv1 ?_)
        (conv => arg 1; whnf)
        refine st1 ?_
        rcases e_bif hF with ⟨hb4, hF⟩ | ⟨hb4, hF⟩ <;> (first | rw [hb4] | (conv => arg 7; rw [hb4]) | (conv => arg 9; rw [hb4]))
        · refine st1 ?_
          have hq : some _ = some _ := hF
          cases hq
          exact en1
        · refine st1 ?_
          obtain ⟨_, h, hF⟩ := e_bind hF
          (first | refine g_call h lv1 ?_ | refine g_callT h lv1 ?_)
          (conv => arg 1; whnf)
          refine st1 ?_
          rcases e_bif hF with ⟨hb5, hF⟩ | ⟨hb5, hF⟩ <;> (first | rw [hb5] | (conv => arg 7; rw [hb5]) | (conv => arg 9; rw [hb5]))
          · refine st1 ?_
            have hq : some _ = some _ := hF
            cases hq
            exact en1
          · refine st1 ?_
            obtain ⟨_, h, hF⟩ := e_bind hF
            (first | refine g_call h lv1 ?_ | refine g_callT h lv1 ?_)
            (conv => arg 1; whnf)
            refine st1 ?_
            rcases e_bif hF with ⟨hb6, hF⟩ | ⟨hb6, hF⟩ <;> (first | rw [hb6] | (conv => arg 7; rw [hb6]) | (conv => arg 9; rw [hb6]))
            · refine st1 ?_
              have hq : some _ = some _ := hF
              cases hq
              exact en1
            · refine st1 ?_
              obtain ⟨_, h, hF⟩ := e_bind hF
              (first | refine g_call h lv1 ?_ | refine g_callT h lv1 ?_)
              (conv => arg 1; whnf)
              refine st1 ?_
              rcases e_bif hF with ⟨hb7, hF⟩ | ⟨hb7, hF⟩ <;> (first | rw [hb7] | (conv => arg 7; rw [hb7]) | (conv => arg 9; rw [hb7]))
              · refine st1 ?_
                have hq : some _ = some _ := hF
                cases hq
                exact en1
              · refine st1 ?_
                refine st_loopF (e_assoc hF) () [(0, _)] ⟨sT, sS, by rfl, by rfl⟩ ?_
                · rintro n _ _ x hx1 hF
                  (conv => arg 7; whnf); (conv => arg 8; whnf); (conv => arg 9; whnf)
                  refine st1 ?_
                  rcases e_bif hF with ⟨hb17, hF⟩ | ⟨hb17, hF⟩ <;> (first | rw [hb17] | (conv => arg 7; rw [hb17]) | (conv => arg 9; rw [hb17]))
                  · refine st1 ?_
                    obtain ⟨_, h, hF⟩ := e_bind hF
                    (first | refine o_ia (enc := eTRateRow) (s := 2) h (fun _ => rfl) (by decide) ?_ | refine o_iaT (enc := eTRateRow) (s := 2) h (fun _ => rfl) (by decide) ?_)
                    intro _
                    refine st1 ?_
                    obtain ⟨_, h, hF⟩ := e_bind hF
                    (first | refine g_call h lv1 ?_ | refine g_callT h lv1 ?_)
                    (conv => arg 1; whnf)
                    refine st1 ?_
                    rcases e_bif hF with ⟨hb18, hF⟩ | ⟨hb18, hF⟩ <;> (first | rw [hb18] | (conv => arg 7; rw [hb18]) | (conv => arg 9; rw [hb18]))
                    · refine st1 ?_
                      have hF := e_some hF
                      have hq : some _ = some _ := hF
                      cases hq
                      exact en1
                    · refine st1 ?_
                      obtain ⟨_, h, hF⟩ := e_bind hF
                      (first | refine o_ia (enc := eTRateRow) (s := 2) h (fun _ => rfl) (by decide) ?_ | refine o_iaT (enc := eTRateRow) (s := 2) h (fun _ => rfl) (by decide) ?_)
                      intro _
                      refine st1 ?_
                      obtain ⟨_, h, hF⟩ := e_bind hF
                      (first | refine g_call h lv1 ?_ | refine g_callT h lv1 ?_)
                      (conv => arg 1; whnf)
                      refine st1 ?_
                      rcases e_bif hF with ⟨hb19, hF⟩ | ⟨hb19, hF⟩ <;> (first | rw [hb19] | (conv => arg 7; rw [hb19]) | (conv => arg 9; rw [hb19]))
                      · refine st1 ?_
                        have hF := e_some hF
                        have hq : some _ = some _ := hF
                        cases hq
                        exact en1
                      · refine st1 ?_
                        rcases e_bif hF with ⟨hb20, hF⟩ | ⟨hb20, hF⟩ <;> (first | rw [hb20] | (conv => arg 7; rw [hb20]) | (conv => arg 9; rw [hb20]))
                        · refine st1 ?_
                          obtain ⟨_, h, hF⟩ := e_bind hF
                          (first | refine o_ia (enc := eTRateRow) (s := 2) h (fun _ => rfl) (by decide) ?_ | refine o_iaT (enc := eTRateRow) (s := 2) h (fun _ => rfl) (by decide) ?_)
                          intro _
                          refine st1 ?_
                          obtain ⟨_, h, hF⟩ := e_bind hF
                          (first | refine o_ia (enc := eTRateRow) (s := 2) h (fun _ => rfl) (by decide) ?_ | refine o_iaT (enc := eTRateRow) (s := 2) h (fun _ => rfl) (by decide) ?_)
                          intro _
                          refine st1 ?_
                          rcases e_bif hF with ⟨hb21, hF⟩ | ⟨hb21, hF⟩ <;> (first | rw [hb21] | (conv => arg 7; rw [hb21]) | (conv => arg 9; rw [hb21]))
                          · refine st1 ?_
                            have hF := e_some hF
                            have hq : some _ = some _ := hF
                            cases hq
                            exact en1
                          · refine st1 ?_
                            obtain ⟨_, h, hF⟩ := e_bind hF
                            (first | refine o_ia (enc := eTRateRow) (s := 2) h (fun _ => rfl) (by decide) ?_ | refine o_iaT (enc := eTRateRow) (s := 2) h (fun _ => rfl) (by decide) ?_)
                            intro _
                            refine st1 ?_
                            obtain ⟨_, h, hF⟩ := e_bind hF
                            (first | refine o_ia (enc := eTRateRow) (s := 2) h (fun _ => rfl) (by decide) ?_ | refine o_iaT (enc := eTRateRow) (s := 2) h (fun _ => rfl) (by decide) ?_)
                            intro _
                            refine st1 ?_
                            rcases e_bif hF with ⟨hb22, hF⟩ | ⟨hb22, hF⟩ <;> (first | rw [hb22] | (conv => arg 7; rw [hb22]) | (conv => arg 9; rw [hb22]))
                            · refine st1 ?_
                              have hF := e_some hF
                              have hq : some _ = some _ := hF
                              cases hq
                              exact en1
                            · refine st1 ?_
                              exact k_loopF (e_some hF) hx1 () [(0, _)] ⟨sT, sS, by rfl, by rfl⟩
                        · refine st1 ?_
                          exact k_loopF (e_some hF) hx1 () [(0, _)] ⟨sT, sS, by rfl, by rfl⟩
                  · refine st1 ?_
                    have hF := e_some hF
                    have hq : some _ = some _ := hF
                    cases hq
                    exact en1


@[reducible] noncomputable def c_thalwegref01_River : Con := conF F_thalwegref01_River (fun x => match x with | (a0) => [(V.agg (eTRiver a0))]) (fun r => (V.v (.bool (r))))
theorem h_thalwegref01_River : Has Tryz.prog 87 c_thalwegref01_River := by
  refine hasF (ctx_cons h_thalwegref01_Reach (ctx_cons h_thalwegref01_Places (ctx_cons h_thalwegref01_Valid (ctx_cons h_thalwegref01_In ctx_nil)))) mix Tryz.func87 rfl (by kernel_rfl) ?_
  rintro a0 r hF
  refine ⟨of_decide_eq_true rfl, ?_⟩
  refine st1 ?_
  obtain ⟨_, h, hF⟩ := e_bind hF
  (first | refine g_call h lv1 ?_ | refine g_callT h lv1 ?_)
  (conv => arg 1; whnf)
  refine st1 ?_
  rcases e_bif hF with ⟨hb1, hF⟩ | ⟨hb1, hF⟩ <;> (first | rw [hb1] | (conv => arg 7; rw [hb1]) | (conv => arg 9; rw [hb1]))
  · refine st1 ?_
    have hq : some _ = some _ := hF
    cases hq
    exact en1
  · refine st1 ?_
    rcases e_bif hF with ⟨hb2, hF⟩ | ⟨hb2, hF⟩ <;> (first | rw [hb2] | (conv => arg 7; rw [hb2]) | (conv => arg 9; rw [hb2]))
    · refine st1 ?_
      have hq : some _ = some _ := hF
      cases hq
      exact en1
    · refine st1 ?_
      refine st_loopF (e_assoc hF) () [(0, _)] ⟨sT, sS, by rfl, by rfl⟩ ?_
      · rintro n _ _ x hx1 hF
        (conv => arg 7; whnf); (conv => arg 8; whnf); (conv => arg 9; whnf)
        refine st1 ?_
        rcases e_bif hF with ⟨hb7, hF⟩ | ⟨hb7, hF⟩ <;> (first | rw [hb7] | (conv => arg 7; rw [hb7]) | (conv => arg 9; rw [hb7]))
        · refine st1 ?_
          obtain ⟨_, h, hF⟩ := e_bind hF
          (first | refine o_ia (enc := eTReach) (s := 9) h (fun _ => rfl) (by decide) ?_ | refine o_iaT (enc := eTReach) (s := 9) h (fun _ => rfl) (by decide) ?_)
          intro _
          refine st1 ?_
          obtain ⟨_, h, hF⟩ := e_bind hF
          (first | refine g_call h lv1 ?_ | refine g_callT h lv1 ?_)
          (conv => arg 1; whnf)
          refine st1 ?_
          rcases e_bif hF with ⟨hb8, hF⟩ | ⟨hb8, hF⟩ <;> (first | rw [hb8] | (conv => arg 7; rw [hb8]) | (conv => arg 9; rw [hb8]))
          · refine st1 ?_
            have hF := e_some hF
            have hq : some _ = some _ := hF
            cases hq
            exact en1
          · refine st1 ?_
            exact k_loopF (e_some hF) hx1 () [(0, _)] ⟨sT, sS, by rfl, by rfl⟩
        · refine st1 ?_
          have hF := e_some hF
          refine st_loopF (e_assoc hF) () [(0, _)] ⟨sT, sS, by rfl, by rfl⟩ ?_
          · rintro n _ _ x hx1 hF
            (conv => arg 7; whnf); (conv => arg 8; whnf); (conv => arg 9; whnf)
            refine st1 ?_
            rcases e_bif hF with ⟨hb19, hF⟩ | ⟨hb19, hF⟩ <;> (first | rw [hb19] | (conv => arg 7; rw [hb19]) | (conv => arg 9; rw [hb19]))
            · refine st1 ?_
              obtain ⟨_, h, hF⟩ := e_bind hF
              (first | refine o_ia (enc := eTShoal) (s := 6) h (fun _ => rfl) (by decide) ?_ | refine o_iaT (enc := eTShoal) (s := 6) h (fun _ => rfl) (by decide) ?_)
              intro _
              refine st1 ?_
              obtain ⟨_, h, hF⟩ := e_bind hF
              (first | refine g_call h lv1 ?_ | refine g_callT h lv1 ?_)
              (conv => arg 1; whnf)
              refine st1 ?_
              obtain ⟨_, h, hF⟩ := e_bind hF
              (first | refine g_call h lv1 ?_ | refine g_callT h lv1 ?_)
              (conv => arg 1; whnf)
              refine st1 ?_
              rcases e_bif hF with ⟨hb20, hF⟩ | ⟨hb20, hF⟩ <;> (first | rw [hb20] | (conv => arg 7; rw [hb20]) | (conv => arg 9; rw [hb20]))
              · refine st1 ?_
                have hF := e_some hF
                have hq : some _ = some _ := hF
                cases hq
                exact en1
              · refine st1 ?_
                obtain ⟨_, h, hF⟩ := e_bind hF
                (first | refine g_call h lv1 ?_ | refine g_callT h lv1 ?_)
                (conv => arg 1; whnf)
                refine st1 ?_
                rcases e_bif hF with ⟨hb21, hF⟩ | ⟨hb21, hF⟩ <;> (first | rw [hb21] | (conv => arg 7; rw [hb21]) | (conv => arg 9; rw [hb21]))
                · refine st1 ?_
                  have hF := e_some hF
                  have hq : some _ = some _ := hF
                  cases hq
                  exact en1
                · refine st1 ?_
                  obtain ⟨_, h, hF⟩ := e_bind hF
                  (first | refine g_call h lv1 ?_ | refine g_callT h lv1 ?_)
                  (conv => arg 1; whnf)
                  refine st1 ?_
                  rcases e_bif hF with ⟨hb22, hF⟩ | ⟨hb22, hF⟩ <;> (first | rw [hb22] | (conv => arg 7; rw [hb22]) | (conv => arg 9; rw [hb22]))
                  · refine st1 ?_
                    have hF := e_some hF
                    have hq : some _ = some _ := hF
                    cases hq
                    exact en1
                  · refine st1 ?_
                    obtain ⟨_, h, hF⟩ := e_bind hF
                    (first | refine g_call h lv1 ?_ | refine g_callT h lv1 ?_)
                    (conv => arg 1; whnf)
                    refine st1 ?_
                    rcases e_bif hF with ⟨hb23, hF⟩ | ⟨hb23, hF⟩ <;> (first | rw [hb23] | (conv => arg 7; rw [hb23]) | (conv => arg 9; rw [hb23]))
                    · refine st1 ?_
                      have hF := e_some hF
                      have hq : some _ = some _ := hF
                      cases hq
                      exact en1
                    · refine st1 ?_
                      exact k_loopF (e_some hF) hx1 () [(0, _)] ⟨sT, sS, by rfl, by rfl⟩
            · refine st1 ?_
              have hF := e_some hF
              have hq : some _ = some _ := hF
              cases hq
              exact en1


@[reducible] noncomputable def c_thalwegref01_Start : Con := conF F_thalwegref01_Start (fun x => match x with | (a0, a1) => [(V.agg (eTRiver a0)), (V.sl (recs (eS eTBounds) (a1)) (a1).length)]) (fun r => (V.v (.int .i64 (r))))
theorem h_thalwegref01_Start : Has Tryz.prog 59 c_thalwegref01_Start := by
  refine hasF (ctx_cons h_thalwegref01_River (ctx_cons h_thalwegref01_Valid ctx_nil)) mix Tryz.func59 rfl (by kernel_rfl) ?_
  rintro ⟨a0, a1⟩ r hF
  refine ⟨of_decide_eq_true rfl, ?_⟩
  refine st1 ?_
  obtain ⟨_, h, hF⟩ := e_bind hF
  (first | refine g_call h lv1 ?_ | refine g_callT h lv1 ?_)
  (conv => arg 1; whnf)
  refine st1 ?_
  rcases e_bif hF with ⟨hb1, hF⟩ | ⟨hb1, hF⟩ <;> (first | rw [hb1] | (conv => arg 7; rw [hb1]) | (conv => arg 9; rw [hb1]))
  · refine st1 ?_
    have hq : some _ = some _ := hF
    cases hq
    exact en1
  · refine st1 ?_
    rcases e_bif hF with ⟨hb2, hF⟩ | ⟨hb2, hF⟩ <;> (first | rw [hb2] | (conv => arg 7; rw [hb2]) | (conv => arg 9; rw [hb2]))
    · refine st1 ?_
      have hq : some _ = some _ := hF
      cases hq
      exact en1
    · refine st1 ?_
      obtain ⟨_, h, hF⟩ := e_bind hF
      (first | refine o_ia (enc := (eS eTBounds)) (s := 1) h (fun _ => rfl) (by decide) ?_ | refine o_iaT (enc := (eS eTBounds)) (s := 1) h (fun _ => rfl) (by decide) ?_)
      intro _
      refine st1 ?_
      rcases e_bif hF with ⟨hb3, hF⟩ | ⟨hb3, hF⟩ <;> (first | rw [hb3] | (conv => arg 7; rw [hb3]) | (conv => arg 9; rw [hb3]))
      · refine st1 ?_
        have hq : some _ = some _ := hF
        cases hq
        exact en1
      · refine st1 ?_
        refine st_loopF (e_assoc hF) () [] ⟨sT, sS, by rfl, by rfl⟩ ?_
        · rintro n _ _ x hx1 hF
          (conv => arg 7; whnf); (conv => arg 8; whnf); (conv => arg 9; whnf)
          refine st1 ?_
          rcases e_bif hF with ⟨hb8, hF⟩ | ⟨hb8, hF⟩ <;> (first | rw [hb8] | (conv => arg 7; rw [hb8]) | (conv => arg 9; rw [hb8]))
          · refine st1 ?_
            obtain ⟨_, h, hF⟩ := e_bind hF
            (first | refine o_ia (enc := (eS eTBounds)) (s := 1) h (fun _ => rfl) (by decide) ?_ | refine o_iaT (enc := (eS eTBounds)) (s := 1) h (fun _ => rfl) (by decide) ?_)
            intro _
            refine st1 ?_
            obtain ⟨_, h, hF⟩ := e_bind hF
            (first | refine o_ia (enc := (eS eTBounds)) (s := 1) h (fun _ => rfl) (by decide) ?_ | refine o_iaT (enc := (eS eTBounds)) (s := 1) h (fun _ => rfl) (by decide) ?_)
            intro _
            refine st1 ?_
            rcases e_bif hF with ⟨hb9, hF⟩ | ⟨hb9, hF⟩ <;> (first | rw [hb9] | (conv => arg 7; rw [hb9]) | (conv => arg 9; rw [hb9]))
            · refine st1 ?_
              have hF := e_some hF
              have hq : some _ = some _ := hF
              cases hq
              exact en1
            · refine st1 ?_
              exact k_loopF (e_some hF) hx1 () [] ⟨sT, sS, by rfl, by rfl⟩
          · refine st1 ?_
            have hF := e_some hF
            obtain ⟨_, h, hF⟩ := e_bind hF
            (first | refine o_ia (enc := (eS eTBounds)) (s := 1) h (fun _ => rfl) (by decide) ?_ | refine o_iaT (enc := (eS eTBounds)) (s := 1) h (fun _ => rfl) (by decide) ?_)
            intro _
            refine st1 ?_
            rcases e_bif hF with ⟨hb10, hF⟩ | ⟨hb10, hF⟩ <;> (first | rw [hb10] | (conv => arg 7; rw [hb10]) | (conv => arg 9; rw [hb10]))
            · refine st1 ?_
              have hq : some _ = some _ := hF
              cases hq
              exact en1
            · refine st1 ?_
              refine st_loopF (e_assoc hF) () [] ⟨sT, sS, by rfl, by rfl⟩ ?_
              · rintro n _ _ x hx1 hF
                (conv => arg 7; whnf); (conv => arg 8; whnf); (conv => arg 9; whnf)
                refine st1 ?_
                rcases e_bif hF with ⟨hb25, hF⟩ | ⟨hb25, hF⟩ <;> (first | rw [hb25] | (conv => arg 7; rw [hb25]) | (conv => arg 9; rw [hb25]))
                · refine st1 ?_
                  refine st_loopF (e_assoc hF) () [] ⟨sT, sS, by rfl, by rfl⟩ ?_
                  · rintro n _ _ x hx2 hF
                    (conv => arg 7; whnf); (conv => arg 8; whnf); (conv => arg 9; whnf)
                    refine st1 ?_
                    obtain ⟨_, h, hF⟩ := e_bind hF
                    (first | refine o_ia (enc := (eS eTBounds)) (s := 1) h (fun _ => rfl) (by decide) ?_ | refine o_iaT (enc := (eS eTBounds)) (s := 1) h (fun _ => rfl) (by decide) ?_)
                    intro _
                    refine st1 ?_
                    rcases e_bif hF with ⟨hb30, hF⟩ | ⟨hb30, hF⟩ <;> (first | rw [hb30] | (conv => arg 7; rw [hb30]) | (conv => arg 9; rw [hb30]))
                    · refine st1 ?_
                      obtain ⟨_, h, hF⟩ := e_bind hF
                      (first | refine o_ia (enc := (eS eTBounds)) (s := 1) h (fun _ => rfl) (by decide) ?_ | refine o_iaT (enc := (eS eTBounds)) (s := 1) h (fun _ => rfl) (by decide) ?_)
                      intro _
                      refine st1 ?_
                      obtain ⟨_, h, hF⟩ := e_bind hF
                      (first | refine o_ia (enc := eTBounds) (s := 2) h (fun _ => rfl) (by decide) ?_ | refine o_iaT (enc := eTBounds) (s := 2) h (fun _ => rfl) (by decide) ?_)
                      intro _
                      refine st1 ?_
                      obtain ⟨_, h, hF⟩ := e_bind hF
                      (first | refine g_call h lv1 ?_ | refine g_callT h lv1 ?_)
                      (conv => arg 1; whnf)
                      refine st1 ?_
                      rcases e_bif hF with ⟨hb31, hF⟩ | ⟨hb31, hF⟩ <;> (first | rw [hb31] | (conv => arg 7; rw [hb31]) | (conv => arg 9; rw [hb31]))
                      · refine st1 ?_
                        have hF := e_some hF
                        have hF := e_some hF
                        have hq : some _ = some _ := hF
                        cases hq
                        exact en1
                      · refine st1 ?_
                        exact k_loopF (e_some hF) hx2 () [] ⟨sT, sS, by rfl, by rfl⟩
                    · refine st1 ?_
                      have hF := e_some hF
                      exact k_loopF (e_some hF) hx1 () [] ⟨sT, sS, by rfl, by rfl⟩
                · refine st1 ?_
                  have hF := e_some hF
                  have hq : some _ = some _ := hF
                  cases hq
                  exact en1


@[reducible] noncomputable def c_thalwegref01_Way : Con := conF F_thalwegref01_Way (fun x => match x with | (a0, a1, a2) => [(V.agg (eTRiver a0)), (V.sl (recs eTPass (a1)) (a1).length), (V.v (.int .i64 (a2)))]) (fun r => (V.v (.int .i64 (r))))
theorem h_thalwegref01_Way : Has Tryz.prog 60 c_thalwegref01_Way := by
  refine hasF (ctx_cons h_thalwegref01_Places (ctx_cons h_thalwegref01_Valid (ctx_cons h_thalwegref01_In ctx_nil))) mix Tryz.func60 rfl (by kernel_rfl) ?_
  rintro ⟨a0, a1, a2⟩ r hF
  refine ⟨of_decide_eq_true rfl, ?_⟩
  refine st1 ?_
  rcases e_bif hF with ⟨hb1, hF⟩ | ⟨hb1, hF⟩ <;> (first | rw [hb1] | (conv => arg 7; rw [hb1]) | (conv => arg 9; rw [hb1]))
  · refine st1 ?_
    have hq : some _ = some _ := hF
    cases hq
    exact en1
  · refine st1 ?_
    rcases e_bif hF with ⟨hb2, hF⟩ | ⟨hb2, hF⟩ <;> (first | rw [hb2] | (conv => arg 7; rw [hb2]) | (conv => arg 9; rw [hb2]))
    · refine st1 ?_
      have hq : some _ = some _ := hF
      cases hq
      exact en1
    · refine st1 ?_
      refine st_loopF (e_assoc hF) () [(0, _)] ⟨sT, sS, by rfl, by rfl⟩ ?_
      · rintro n _ _ x hx1 hF
        (conv => arg 7; whnf); (conv => arg 8; whnf); (conv => arg 9; whnf)
        refine st1 ?_
        rcases e_bif hF with ⟨hb9, hF⟩ | ⟨hb9, hF⟩ <;> (first | rw [hb9] | (conv => arg 7; rw [hb9]) | (conv => arg 9; rw [hb9]))
        · refine st1 ?_
          obtain ⟨_, h, hF⟩ := e_bind hF
          (first | refine o_ia (enc := eTPass) (s := 3) h (fun _ => rfl) (by decide) ?_ | refine o_iaT (enc := eTPass) (s := 3) h (fun _ => rfl) (by decide) ?_)
          intro _
          refine st1 ?_
          obtain ⟨_, h, hF⟩ := e_bind hF
          (first | refine g_call h lv1 ?_ | refine g_callT h lv1 ?_)
          (conv => arg 1; whnf)
          refine st1 ?_
          obtain ⟨_, h, hF⟩ := e_bind hF
          (first | refine g_call h lv1 ?_ | refine g_callT h lv1 ?_)
          (conv => arg 1; whnf)
          refine st1 ?_
          rcases e_bif hF with ⟨hb10, hF⟩ | ⟨hb10, hF⟩ <;> (first | rw [hb10] | (conv => arg 7; rw [hb10]) | (conv => arg 9; rw [hb10]))
          · refine st1 ?_
            have hF := e_some hF
            have hq : some _ = some _ := hF
            cases hq
            exact en1
          · refine st1 ?_
            obtain ⟨_, h, hF⟩ := e_bind hF
            (first | refine o_ia (enc := eTPass) (s := 3) h (fun _ => rfl) (by decide) ?_ | refine o_iaT (enc := eTPass) (s := 3) h (fun _ => rfl) (by decide) ?_)
            intro _
            refine st1 ?_
            obtain ⟨_, h, hF⟩ := e_bind hF
            (first | refine g_call h lv1 ?_ | refine g_callT h lv1 ?_)
            (conv => arg 1; whnf)
            refine st1 ?_
            rcases e_bif hF with ⟨hb11, hF⟩ | ⟨hb11, hF⟩ <;> (first | rw [hb11] | (conv => arg 7; rw [hb11]) | (conv => arg 9; rw [hb11]))
            · refine st1 ?_
              have hF := e_some hF
              have hq : some _ = some _ := hF
              cases hq
              exact en1
            · refine st1 ?_
              exact k_loopF (e_some hF) hx1 () [(0, _)] ⟨sT, sS, by rfl, by rfl⟩
        · refine st1 ?_
          have hF := e_some hF
          have hq : some _ = some _ := hF
          cases hq
          exact en1


@[reducible] noncomputable def c_thalwegref02_Passage : Con := conF F_thalwegref02_Passage (fun x => match x with | (a0) => [(V.agg (eTPassage a0))]) (fun r => (V.v (.int .i64 (r))))
theorem h_thalwegref02_Passage : Has Tryz.prog 30 c_thalwegref02_Passage := by
  refine hasF (ctx_cons h_thalwegref01_Way (ctx_cons h_thalwegref01_Start (ctx_cons h_thalwegref01_In ctx_nil))) mix Tryz.func30 rfl (by kernel_rfl) ?_
  rintro a0 r hF
  refine ⟨of_decide_eq_true rfl, ?_⟩
  refine st1 ?_
  obtain ⟨_, h, hF⟩ := e_bind hF
  (first | refine g_call h lv1 ?_ | refine g_callT h lv1 ?_)
  (conv => arg 1; whnf)
  refine st1 ?_
  rcases e_bif hF with ⟨hb1, hF⟩ | ⟨hb1, hF⟩ <;> (first | rw [hb1] | (conv => arg 7; rw [hb1]) | (conv => arg 9; rw [hb1]))
  · refine st1 ?_
    have hq : some _ = some _ := hF
    cases hq
    exact en1
  · refine st1 ?_
    obtain ⟨_, h, hF⟩ := e_bind hF
    (first | refine g_call h lv1 ?_ | refine g_callT h lv1 ?_)
    (conv => arg 1; whnf)
    refine st1 ?_
    rcases e_bif hF with ⟨hb2, hF⟩ | ⟨hb2, hF⟩ <;> (first | rw [hb2] | (conv => arg 7; rw [hb2]) | (conv => arg 9; rw [hb2]))
    · refine st1 ?_
      have hq : some _ = some _ := hF
      cases hq
      exact en1
    · refine st1 ?_
      obtain ⟨_, h, hF⟩ := e_bind hF
      (first | refine o_ia (enc := (eS eTBounds)) (s := 1) h (fun _ => rfl) (by decide) ?_ | refine o_iaT (enc := (eS eTBounds)) (s := 1) h (fun _ => rfl) (by decide) ?_)
      intro _
      refine st1 ?_
      obtain ⟨_, h, hF⟩ := e_bind hF
      (first | refine g_call h lv1 ?_ | refine g_callT h lv1 ?_)
      (conv => arg 1; whnf)
      refine st1 ?_
      have hq : some _ = some _ := hF
      cases hq
      exact en1


@[reducible] noncomputable def c_thalwegref01_Of : Con := conF F_thalwegref01_Of (fun x => match x with | (a0, a1) => [(V.agg (eTRiver a0)), (V.v (.int .i64 (a1)))]) (fun r => (V.v (.int .i64 (r))))
theorem h_thalwegref01_Of : Has Tryz.prog 89 c_thalwegref01_Of := by
  refine hasF ctx_nil mix Tryz.func89 rfl (by kernel_rfl) ?_
  rintro ⟨a0, a1⟩ r hF
  refine ⟨of_decide_eq_true rfl, ?_⟩
  refine st1 ?_
  refine st_loopF (e_assoc hF) () [(0, _)] ⟨sT, sS, by rfl, by rfl⟩ ?_
  · rintro n ⟨_, _⟩ _ x hx1 hF
    (conv => arg 7; whnf); (conv => arg 8; whnf); (conv => arg 9; whnf)
    refine st1 ?_
    obtain ⟨_, h, hF⟩ := e_bind hF
    (first | refine o_ia (enc := eTReach) (s := 9) h (fun _ => rfl) (by decide) ?_ | refine o_iaT (enc := eTReach) (s := 9) h (fun _ => rfl) (by decide) ?_)
    intro _
    refine st1 ?_
    rcases e_bif hF with ⟨hb3, hF⟩ | ⟨hb3, hF⟩ <;> (first | rw [hb3] | (conv => arg 7; rw [hb3]) | (conv => arg 9; rw [hb3]))
    · refine st1 ?_
      obtain ⟨_, h, hF⟩ := e_bind hF
      (first | refine o_ia (enc := eTReach) (s := 9) h (fun _ => rfl) (by decide) ?_ | refine o_iaT (enc := eTReach) (s := 9) h (fun _ => rfl) (by decide) ?_)
      intro _
      refine st1 ?_
      exact k_loopF (e_some hF) hx1 () [(0, _)] ⟨sT, sS, by rfl, by rfl⟩
    · refine st1 ?_
      have hF := e_some hF
      have hq : some _ = some _ := hF
      cases hq
      exact en1


@[reducible] noncomputable def c_thalwegref01_Floor : Con := conF F_thalwegref01_Floor (fun x => match x with | (a0, a1) => [(V.v (.int .i64 (a0))), (V.v (.int .i64 (a1)))]) (fun r => (V.v (.int .i64 (r))))
theorem h_thalwegref01_Floor : Has Tryz.prog 113 c_thalwegref01_Floor := by
  refine hasF ctx_nil mix Tryz.func113 rfl (by kernel_rfl) ?_
  rintro ⟨a0, a1⟩ r hF
  refine ⟨of_decide_eq_true rfl, ?_⟩
  refine st1 ?_
  obtain ⟨_, h, hF⟩ := e_bind hF
  (first | refine go_req (nz_ne h) ?_ | refine goT_req (nz_ne h) ?_)
  (conv => arg 1; whnf)
  refine st1 ?_
  rcases e_bif hF with ⟨hb1, hF⟩ | ⟨hb1, hF⟩ <;> (first | rw [hb1] | (conv => arg 7; rw [hb1]) | (conv => arg 9; rw [hb1]))
  · refine st1 ?_
    have hq : some _ = some _ := hF
    cases hq
    exact en1
  · refine st1 ?_
    have hq : some _ = some _ := hF
    cases hq
    exact en1


@[reducible] noncomputable def c_thalwegref01_Curve : Con := conF F_thalwegref01_Curve (fun x => match x with | (a0, a1, a2) => [(V.agg (eTReach a0)), (V.v (.int .i64 (a1))), (V.v (.bool (a2)))]) (fun r => (V.v (.int .i64 (r))))
theorem h_thalwegref01_Curve : Has Tryz.prog 112 c_thalwegref01_Curve := by
  refine hasF (ctx_cons h_thalwegref01_Floor (ctx_cons h_thalwegref01_Ceil ctx_nil)) mix Tryz.func112 rfl (by kernel_rfl) ?_
  rintro ⟨a0, a1, a2⟩ r hF
  refine ⟨of_decide_eq_true rfl, ?_⟩
  refine st1 ?_
  obtain ⟨_, h, hF⟩ := e_bind hF
  (first | refine o_ia (enc := eTRateRow) (s := 2) h (fun _ => rfl) (by decide) ?_ | refine o_iaT (enc := eTRateRow) (s := 2) h (fun _ => rfl) (by decide) ?_)
  intro _
  refine st1 ?_
  obtain ⟨_, h, hF⟩ := e_bind hF
  (first | refine o_ia (enc := eTRateRow) (s := 2) h (fun _ => rfl) (by decide) ?_ | refine o_iaT (enc := eTRateRow) (s := 2) h (fun _ => rfl) (by decide) ?_)
  intro _
  refine st1 ?_
  rcases e_bif hF with ⟨hb1, hF⟩ | ⟨hb1, hF⟩ <;> (first | rw [hb1] | (conv => arg 7; rw [hb1]) | (conv => arg 9; rw [hb1]))
  · refine st1 ?_
    obtain ⟨_, h, hF⟩ := e_bind hF
    (first | refine o_ia (enc := eTRateRow) (s := 2) h (fun _ => rfl) (by decide) ?_ | refine o_iaT (enc := eTRateRow) (s := 2) h (fun _ => rfl) (by decide) ?_)
    intro _
    refine st1 ?_
    have hq : some _ = some _ := hF
    cases hq
    exact en1
  · refine st1 ?_
    rcases e_bif hF with ⟨hb2, hF⟩ | ⟨hb2, hF⟩ <;> (first | rw [hb2] | (conv => arg 7; rw [hb2]) | (conv => arg 9; rw [hb2]))
    · refine st1 ?_
      have hq : some _ = some _ := hF
      cases hq
      exact en1
    · refine st1 ?_
      refine st_loopF (e_assoc hF) () [(0, _)] ⟨sT, sS, by rfl, by rfl⟩ ?_
      · rintro n _ _ x hx1 hF
        (conv => arg 7; whnf); (conv => arg 8; whnf); (conv => arg 9; whnf)
        refine st1 ?_
        obtain ⟨_, h, hF⟩ := e_bind hF
        (first | refine o_ia (enc := eTRateRow) (s := 2) h (fun _ => rfl) (by decide) ?_ | refine o_iaT (enc := eTRateRow) (s := 2) h (fun _ => rfl) (by decide) ?_)
        intro _
        refine st1 ?_
        rcases e_bif hF with ⟨hb5, hF⟩ | ⟨hb5, hF⟩ <;> (first | rw [hb5] | (conv => arg 7; rw [hb5]) | (conv => arg 9; rw [hb5]))
        · refine st1 ?_
          exact k_loopF (e_some hF) hx1 () [(0, _)] ⟨sT, sS, by rfl, by rfl⟩
        · refine st1 ?_
          have hF := e_some hF
          obtain ⟨_, h, hF⟩ := e_bind hF
          (first | refine o_ia (enc := eTRateRow) (s := 2) h (fun _ => rfl) (by decide) ?_ | refine o_iaT (enc := eTRateRow) (s := 2) h (fun _ => rfl) (by decide) ?_)
          intro _
          refine st1 ?_
          obtain ⟨_, h, hF⟩ := e_bind hF
          (first | refine o_ia (enc := eTRateRow) (s := 2) h (fun _ => rfl) (by decide) ?_ | refine o_iaT (enc := eTRateRow) (s := 2) h (fun _ => rfl) (by decide) ?_)
          intro _
          refine st1 ?_
          rcases e_bif hF with ⟨hb6, hF⟩ | ⟨hb6, hF⟩ <;> (first | rw [hb6] | (conv => arg 7; rw [hb6]) | (conv => arg 9; rw [hb6]))
          · refine st1 ?_
            obtain ⟨_, h, hF⟩ := e_bind hF
            (first | refine g_call h lv1 ?_ | refine g_callT h lv1 ?_)
            (conv => arg 1; whnf)
            refine st1 ?_
            have hq : some _ = some _ := hF
            cases hq
            exact en1
          · refine st1 ?_
            obtain ⟨_, h, hF⟩ := e_bind hF
            (first | refine g_call h lv1 ?_ | refine g_callT h lv1 ?_)
            (conv => arg 1; whnf)
            refine st1 ?_
            have hq : some _ = some _ := hF
            cases hq
            exact en1


@[reducible] noncomputable def c_thalwegref01_Level : Con := conF F_thalwegref01_Level (fun x => match x with | (a0, a1) => [(V.agg (eTReach a0)), (V.agg (eTBounds a1))]) (fun r => (V.agg (eTBounds r)))
theorem h_thalwegref01_Level : Has Tryz.prog 90 c_thalwegref01_Level := by
  refine hasF (ctx_cons h_thalwegref01_Curve ctx_nil) mix Tryz.func90 rfl (by kernel_rfl) ?_
  rintro ⟨a0, a1⟩ r hF
  refine ⟨of_decide_eq_true rfl, ?_⟩
  refine st1 ?_
  obtain ⟨_, h, hF⟩ := e_bind hF
  (first | refine g_call h lv1 ?_ | refine g_callT h lv1 ?_)
  (conv => arg 1; whnf)
  refine st1 ?_
  obtain ⟨_, h, hF⟩ := e_bind hF
  (first | refine g_call h lv1 ?_ | refine g_callT h lv1 ?_)
  (conv => arg 1; whnf)
  refine st1 ?_
  have hq : some _ = some _ := hF
  cases hq
  exact en1


@[reducible] noncomputable def c_thalwegref01_Flow : Con := conF F_thalwegref01_Flow (fun x => match x with | (a0, a1, a2, a3) => [(V.agg (eTRiver a0)), (V.sl (recs (eS eTBounds) (a1)) (a1).length), (V.v (.int .i64 (a2))), (V.v (.int .i64 (a3)))]) (fun r => (V.agg (eTBounds r)))
theorem hS_thalwegref01_Flow (n : Nat) (ih : Has Tryz.prog 91 (conF (recN B_thalwegref01_Flow n) (fun x => match x with | (a0, a1, a2, a3) => [(V.agg (eTRiver a0)), (V.sl (recs (eS eTBounds) (a1)) (a1).length), (V.v (.int .i64 (a2))), (V.v (.int .i64 (a3)))]) (fun r => (V.agg (eTBounds r))))) : Has Tryz.prog 91 (conF (recN B_thalwegref01_Flow (n + 1)) (fun x => match x with | (a0, a1, a2, a3) => [(V.agg (eTRiver a0)), (V.sl (recs (eS eTBounds) (a1)) (a1).length), (V.v (.int .i64 (a2))), (V.v (.int .i64 (a3)))]) (fun r => (V.agg (eTBounds r)))) := by
  refine hasF (ctx_cons ih ctx_nil) mix Tryz.func91 rfl (by kernel_rfl) ?_
  rintro ⟨a0, a1, a2, a3⟩ r hF
  refine ⟨of_decide_eq_true rfl, ?_⟩
  replace hF : (B_thalwegref01_Flow (recN B_thalwegref01_Flow n) _).bind some = some r := hF
  refine st1 ?_
  rcases e_bif hF with ⟨hb1, hF⟩ | ⟨hb1, hF⟩ <;> (first | rw [hb1] | (conv => arg 7; rw [hb1]) | (conv => arg 9; rw [hb1]))
  · refine st1 ?_
    obtain ⟨_, h, hF⟩ := e_bind hF
    (first | refine o_ia (enc := eTReach) (s := 9) h (fun _ => rfl) (by decide) ?_ | refine o_iaT (enc := eTReach) (s := 9) h (fun _ => rfl) (by decide) ?_)
    intro _
    refine st1 ?_
    have hq : some _ = some _ := hF
    cases hq
    exact en1
  · refine st1 ?_
    obtain ⟨_, h, hF⟩ := e_bind hF
    (first | refine o_ia (enc := (eS eTBounds)) (s := 1) h (fun _ => rfl) (by decide) ?_ | refine o_iaT (enc := (eS eTBounds)) (s := 1) h (fun _ => rfl) (by decide) ?_)
    intro _
    refine st1 ?_
    obtain ⟨_, h, hF⟩ := e_bind hF
    (first | refine o_ia (enc := eTBounds) (s := 2) h (fun _ => rfl) (by decide) ?_ | refine o_iaT (enc := eTBounds) (s := 2) h (fun _ => rfl) (by decide) ?_)
    intro _
    refine st1 ?_
    rcases e_bif hF with ⟨hb2, hF⟩ | ⟨hb2, hF⟩ <;> (first | rw [hb2] | (conv => arg 7; rw [hb2]) | (conv => arg 9; rw [hb2]))
    · refine st1 ?_
      obtain ⟨_, h, hF⟩ := e_bind hF
      (first | refine o_ia (enc := eTReach) (s := 9) h (fun _ => rfl) (by decide) ?_ | refine o_iaT (enc := eTReach) (s := 9) h (fun _ => rfl) (by decide) ?_)
      intro _
      refine st1 ?_
      obtain ⟨_, h, hF⟩ := e_bind hF
      (first | refine g_call h lv1 ?_ | refine g_callT h lv1 ?_)
      (conv => arg 1; whnf)
      refine st1 ?_
      have hq : some _ = some _ := hF
      cases hq
      exact en1
    · refine st1 ?_
      have hq : some _ = some _ := hF
      cases hq
      exact en1

theorem hN_thalwegref01_Flow : ∀ n, Has Tryz.prog 91 (conF (recN B_thalwegref01_Flow n) (fun x => match x with | (a0, a1, a2, a3) => [(V.agg (eTRiver a0)), (V.sl (recs (eS eTBounds) (a1)) (a1).length), (V.v (.int .i64 (a2))), (V.v (.int .i64 (a3)))]) (fun r => (V.agg (eTBounds r))))
  | 0 => hasF ctx_nil mix Tryz.func91 rfl (by kernel_rfl) (fun x r hF => by cases hF)
  | n + 1 => hS_thalwegref01_Flow n (hN_thalwegref01_Flow n)
theorem h_thalwegref01_Flow : Has Tryz.prog 91 c_thalwegref01_Flow := has_fix hN_thalwegref01_Flow


@[reducible] noncomputable def c_thalwegref01_Bed : Con := conF F_thalwegref01_Bed (fun x => match x with | (a0, a1, a2) => [(V.agg (eTRiver a0)), (V.v (.int .i64 (a1))), (V.v (.int .i64 (a2)))]) (fun r => (V.agg (eTBounds r)))
theorem h_thalwegref01_Bed : Has Tryz.prog 92 c_thalwegref01_Bed := by
  refine hasF (ctx_cons h_thalwegref01_Floor (ctx_cons h_thalwegref01_Of (ctx_cons h_thalwegref01_Ceil ctx_nil))) mix Tryz.func92 rfl (by kernel_rfl) ?_
  rintro ⟨a0, a1, a2⟩ r hF
  refine ⟨of_decide_eq_true rfl, ?_⟩
  refine st1 ?_
  obtain ⟨_, h, hF⟩ := e_bind hF
  (first | refine g_call h lv1 ?_ | refine g_callT h lv1 ?_)
  (conv => arg 1; whnf)
  refine st1 ?_
  obtain ⟨_, h, hF⟩ := e_bind hF
  (first | refine o_ia (enc := eTReach) (s := 9) h (fun _ => rfl) (by decide) ?_ | refine o_iaT (enc := eTReach) (s := 9) h (fun _ => rfl) (by decide) ?_)
  intro _
  refine st1 ?_
  refine st_loopF (e_assoc hF) () [(0, _), (1, _), (10, _)] ⟨sT, sS, by rfl, by rfl⟩ ?_
  · rintro n ⟨_, _, _⟩ _ x hx1 hF
    (conv => arg 7; whnf); (conv => arg 8; whnf); (conv => arg 9; whnf)
    refine st1 ?_
    rcases e_bif hF with ⟨hb5, hF⟩ | ⟨hb5, hF⟩ <;> (first | rw [hb5] | (conv => arg 7; rw [hb5]) | (conv => arg 9; rw [hb5]))
    · refine st1 ?_
      obtain ⟨_, h, hF⟩ := e_bind hF
      (first | refine o_ia (enc := eTShoal) (s := 6) h (fun _ => rfl) (by decide) ?_ | refine o_iaT (enc := eTShoal) (s := 6) h (fun _ => rfl) (by decide) ?_)
      intro _
      refine st1 ?_
      rcases e_bif hF with ⟨hb6, hF⟩ | ⟨hb6, hF⟩ <;> (first | rw [hb6] | (conv => arg 7; rw [hb6]) | (conv => arg 9; rw [hb6]))
      · refine st1 ?_
        exact k_loopF (e_some hF) hx1 () [(0, _), (1, _), (10, _)] ⟨sT, sS, by rfl, by rfl⟩
      · refine st1 ?_
        obtain ⟨_, h, hF⟩ := e_bind hF
        (first | refine g_call h lv1 ?_ | refine g_callT h lv1 ?_)
        (conv => arg 1; whnf)
        refine st1 ?_
        obtain ⟨_, h, hF⟩ := e_bind hF
        (first | refine g_call h lv1 ?_ | refine g_callT h lv1 ?_)
        (conv => arg 1; whnf)
        refine st1 ?_
        exact k_loopF (e_some hF) hx1 () [(0, _), (1, _), (10, _)] ⟨sT, sS, by rfl, by rfl⟩
    · refine st1 ?_
      have hF := e_some hF
      have hq : some _ = some _ := hF
      cases hq
      exact en1


@[reducible] noncomputable def c_thalwegref01_Depth : Con := conF F_thalwegref01_Depth (fun x => match x with | (a0, a1, a2, a3) => [(V.agg (eTRiver a0)), (V.sl (recs (eS eTBounds) (a1)) (a1).length), (V.v (.int .i64 (a2))), (V.v (.int .i64 (a3)))]) (fun r => (V.agg (eTBounds r)))
theorem h_thalwegref01_Depth : Has Tryz.prog 61 c_thalwegref01_Depth := by
  refine hasF (ctx_cons h_thalwegref01_Bed (ctx_cons h_thalwegref01_Flow (ctx_cons h_thalwegref01_Level (ctx_cons h_thalwegref01_Of ctx_nil)))) mix Tryz.func61 rfl (by kernel_rfl) ?_
  rintro ⟨a0, a1, a2, a3⟩ r hF
  refine ⟨of_decide_eq_true rfl, ?_⟩
  refine st1 ?_
  obtain ⟨_, h, hF⟩ := e_bind hF
  (first | refine g_call h lv1 ?_ | refine g_callT h lv1 ?_)
  (conv => arg 1; whnf)
  refine st1 ?_
  obtain ⟨_, h, hF⟩ := e_bind hF
  (first | refine o_ia (enc := eTReach) (s := 9) h (fun _ => rfl) (by decide) ?_ | refine o_iaT (enc := eTReach) (s := 9) h (fun _ => rfl) (by decide) ?_)
  intro _
  refine st1 ?_
  obtain ⟨_, h, hF⟩ := e_bind hF
  (first | refine g_call h lv1 ?_ | refine g_callT h lv1 ?_)
  (conv => arg 1; whnf)
  refine st1 ?_
  obtain ⟨_, h, hF⟩ := e_bind hF
  (first | refine g_call h lv1 ?_ | refine g_callT h lv1 ?_)
  (conv => arg 1; whnf)
  refine st1 ?_
  obtain ⟨_, h, hF⟩ := e_bind hF
  (first | refine g_call h lv1 ?_ | refine g_callT h lv1 ?_)
  (conv => arg 1; whnf)
  refine st1 ?_
  have hq : some _ = some _ := hF
  cases hq
  exact en1


@[reducible] noncomputable def c_thalwegref01_Shallowest : Con := conF F_thalwegref01_Shallowest (fun x => match x with | (a0, a1, a2) => [(V.agg (eTRiver a0)), (V.sl (recs (eS eTBounds) (a1)) (a1).length), (V.sl (recs eTPass (a2)) (a2).length)]) (fun r => V.tup [(V.agg (eTBounds r.1)), (V.v (.int .i64 (r.2.1))), (V.v (.int .i64 (r.2.2)))])
theorem h_thalwegref01_Shallowest : Has Tryz.prog 31 c_thalwegref01_Shallowest := by
  refine hasF (ctx_cons h_thalwegref01_Depth ctx_nil) mix Tryz.func31 rfl (by kernel_rfl) ?_
  rintro ⟨a0, a1, a2⟩ r hF
  refine ⟨of_decide_eq_true rfl, ?_⟩
  refine st1 ?_
  refine st_loopF (e_assoc hF) () [(0, _), (1, _), (5, _)] ⟨sT, sS, by rfl, by rfl⟩ ?_
  · rintro n ⟨_, _, _, _, _⟩ _ x hx1 hF
    (conv => arg 7; whnf); (conv => arg 8; whnf); (conv => arg 9; whnf)
    refine st1 ?_
    rcases e_bif hF with ⟨hb22, hF⟩ | ⟨hb22, hF⟩ <;> (first | rw [hb22] | (conv => arg 7; rw [hb22]) | (conv => arg 9; rw [hb22]))
    · refine st1 ?_
      obtain ⟨_, h, hF⟩ := e_bind hF
      (first | refine o_ia (enc := eTPass) (s := 3) h (fun _ => rfl) (by decide) ?_ | refine o_iaT (enc := eTPass) (s := 3) h (fun _ => rfl) (by decide) ?_)
      intro _
      refine st1 ?_
      refine st_loopF (e_assoc hF) () [(0, _), (1, _), (5, _)] ⟨sT, sS, by rfl, by rfl⟩ ?_
      · rintro n ⟨_, _, _, _, _⟩ _ x hx2 hF
        (conv => arg 7; whnf); (conv => arg 8; whnf); (conv => arg 9; whnf)
        refine st1 ?_
        obtain ⟨_, h, hF⟩ := e_bind hF
        (first | refine o_ia (enc := eTPass) (s := 3) h (fun _ => rfl) (by decide) ?_ | refine o_iaT (enc := eTPass) (s := 3) h (fun _ => rfl) (by decide) ?_)
        intro _
        refine st1 ?_
        rcases e_bif hF with ⟨hb27, hF⟩ | ⟨hb27, hF⟩ <;> (first | rw [hb27] | (conv => arg 7; rw [hb27]) | (conv => arg 9; rw [hb27]))
        · refine st1 ?_
          obtain ⟨_, h, hF⟩ := e_bind hF
          (first | refine o_ia (enc := eTPass) (s := 3) h (fun _ => rfl) (by decide) ?_ | refine o_iaT (enc := eTPass) (s := 3) h (fun _ => rfl) (by decide) ?_)
          intro _
          refine st1 ?_
          obtain ⟨_, h, hF⟩ := e_bind hF
          (first | refine g_call h lv1 ?_ | refine g_callT h lv1 ?_)
          (conv => arg 1; whnf)
          refine st1 ?_
          rcases e_bif hF with ⟨hb28, hF⟩ | ⟨hb28, hF⟩ <;> (first | rw [hb28] | (conv => arg 7; rw [hb28]) | (conv => arg 9; rw [hb28]))
          · refine st1 ?_
            exact k_loopF (e_some hF) hx2 () [(0, _), (1, _), (5, _)] ⟨sT, sS, by rfl, by rfl⟩
          · refine st1 ?_
            exact k_loopF (e_some hF) hx2 () [(0, _), (1, _), (5, _)] ⟨sT, sS, by rfl, by rfl⟩
        · refine st1 ?_
          have hF := e_some hF
          exact k_loopF (e_some hF) hx1 () [(0, _), (1, _), (5, _)] ⟨sT, sS, by rfl, by rfl⟩
    · refine st1 ?_
      have hF := e_some hF
      have hq : some _ = some _ := hF
      cases hq
      exact en1


@[reducible] noncomputable def c_thalwegref02_Fits : Con := conF F_thalwegref02_Fits (fun x => match x with | (a0, a1) => [(V.agg (eTHullFloat a0)), (V.agg (eTPassage a1))]) (fun r => V.tup [(V.v (.bool (r.1))), (V.v (.bool (r.2)))])
theorem h_thalwegref02_Fits : Has Tryz.prog 13 c_thalwegref02_Fits := by
  refine hasF (ctx_cons h_thalwegref01_Shallowest ctx_nil) mix Tryz.func13 rfl (by kernel_rfl) ?_
  rintro ⟨a0, a1⟩ r hF
  refine ⟨of_decide_eq_true rfl, ?_⟩
  refine st1 ?_
  obtain ⟨_, h, hF⟩ := e_bind hF
  (first | refine g_call h lv1 ?_ | refine g_callT h lv1 ?_)
  (conv => arg 1; whnf)
  refine st1 ?_
  have hq : some _ = some _ := hF
  cases hq
  exact en1


@[reducible] noncomputable def c_thalwegref02_Later : Con := conF F_thalwegref02_Later (fun x => match x with | (a0, a1) => [(V.agg (eTHullFloat a0)), (V.agg (eTPassage a1))]) (fun r => (V.v (.int .i64 (r))))
theorem h_thalwegref02_Later : Has Tryz.prog 15 c_thalwegref02_Later := by
  refine hasF (ctx_cons h_thalwegref02_Fits ctx_nil) mix Tryz.func15 rfl (by kernel_rfl) ?_
  rintro ⟨a0, a1⟩ r hF
  refine ⟨of_decide_eq_true rfl, ?_⟩
  refine st1 ?_
  refine st_loopF (e_assoc hF) () [(0, _), (1, _)] ⟨sT, sS, by rfl, by rfl⟩ ?_
  · rintro n _ _ x hx1 hF
    (conv => arg 7; whnf); (conv => arg 8; whnf); (conv => arg 9; whnf)
    refine st1 ?_
    refine st_loopF (e_assoc hF) () [(0, _), (1, _), (3, _)] ⟨sT, sS, by rfl, by rfl⟩ ?_
    · rintro n ⟨_, _⟩ _ x hx2 hF
      (conv => arg 7; whnf); (conv => arg 8; whnf); (conv => arg 9; whnf)
      refine st1 ?_
      rcases e_bif hF with ⟨hb25, hF⟩ | ⟨hb25, hF⟩ <;> (first | rw [hb25] | (conv => arg 7; rw [hb25]) | (conv => arg 9; rw [hb25]))
      · refine st1 ?_
        obtain ⟨_, h, hF⟩ := e_bind hF
        (first | refine o_ia (enc := eTPass) (s := 3) h (fun _ => rfl) (by decide) ?_ | refine o_iaT (enc := eTPass) (s := 3) h (fun _ => rfl) (by decide) ?_)
        intro _
        refine st1 ?_
        obtain ⟨_, h, hF⟩ := e_bind hF
        (first | refine o_ia (enc := (eS eTBounds)) (s := 1) h (fun _ => rfl) (by decide) ?_ | refine o_iaT (enc := (eS eTBounds)) (s := 1) h (fun _ => rfl) (by decide) ?_)
        intro _
        refine st1 ?_
        rcases e_bif hF with ⟨hb26, hF⟩ | ⟨hb26, hF⟩ <;> (first | rw [hb26] | (conv => arg 7; rw [hb26]) | (conv => arg 9; rw [hb26]))
        · refine st1 ?_
          have hF := e_some hF
          have hF := e_some hF
          have hq : some _ = some _ := hF
          cases hq
          exact en1
        · refine st1 ?_
          obtain ⟨_, h, hF⟩ := e_bind hF
          (first | refine o_app (enc := eTPass) (s := 3) h (fun _ => rfl) ?_ | refine o_appT (enc := eTPass) (s := 3) h (fun _ => rfl) ?_)
          refine st1 ?_
          exact k_loopF (e_some hF) hx2 () [(0, _), (1, _), (3, _), (4, _)] ⟨sT, sS, by rfl, by rfl⟩
      · refine st1 ?_
        have hF := e_some hF
        obtain ⟨_, h, hF⟩ := e_bind hF
        (first | refine g_call h lv1 ?_ | refine g_callT h lv1 ?_)
        (conv => arg 1; whnf)
        refine st1 ?_
        rcases e_bif hF with ⟨hb27, hF⟩ | ⟨hb27, hF⟩ <;> (first | rw [hb27] | (conv => arg 7; rw [hb27]) | (conv => arg 9; rw [hb27]))
        · refine st1 ?_
          have hF := e_some hF
          have hq : some _ = some _ := hF
          cases hq
          exact en1
        · refine st1 ?_
          exact k_loopF (e_some hF) hx1 () [(0, _), (1, _)] ⟨sT, sS, by rfl, by rfl⟩


end Go.Ev
