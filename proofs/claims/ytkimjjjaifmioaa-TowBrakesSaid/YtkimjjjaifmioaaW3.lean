/- A part of the proof of TowMeasures. -/
import Derived.Test.YtkimjjjaifmioaaW2
/- The functions do what is said. -/
set_option linter.unusedVariables false
set_option linter.unusedSimpArgs false
namespace Go.Ev
open Go.Proofs
set_option maxHeartbeats 8000000
set_option maxRecDepth 100000
@[reducible] noncomputable def c_numbers_Every_int (C : FuncId → Option Con) : Con := conK F_numbers_Every_int (fun x => match x with | (a0, a1, g, caps) => [(V.sl (recs (eI .i64) (a0)) (a0).length), (V.fn g caps)]) (fun x => match x with | (a0, a1, g, caps) => Callable (ext C []) g caps (fun x => match x with | (q0) => [(V.v (.int .i64 (q0)))]) (fun r => (V.v (.bool (r)))) a1) (fun r => (V.v (.bool (r))))
theorem h_numbers_Every_int {C : FuncId → Option Con} (hC : CtxOK Try.prog C) : Has Try.prog 65 (c_numbers_Every_int C) := by
  refine hasK (ext_nil hC) mix Try.func65 rfl (by kernel_rfl) ?_
  rintro ⟨a0, a1, g, caps⟩ r hcl hF
  obtain ⟨hcaps, c, hc, hce, hcf, hcall⟩ := id hcl
  refine ⟨of_decide_eq_true rfl, ?_⟩
  refine st1 ?_
  refine st_loopF (e_assoc hF) () [] ⟨sT, sS, by rfl, by rfl⟩ ?_
  · rintro n _ _ x hx1 hF
    (conv => arg 7; whnf); (conv => arg 8; whnf); (conv => arg 9; whnf)
    refine st1 ?_
    rcases e_bif hF with ⟨hb5, hF⟩ | ⟨hb5, hF⟩ <;> (first | rw [hb5] | (conv => arg 7; rw [hb5]) | (conv => arg 9; rw [hb5]))
    · refine st1 ?_
      obtain ⟨_, h, hF⟩ := e_bind hF
      (first | refine o_ia (enc := (eI .i64)) (s := 1) h (fun _ => rfl) (by decide) ?_ | refine o_iaT (enc := (eI .i64)) (s := 1) h (fun _ => rfl) (by decide) ?_)
      intro _
      refine st1 ?_
      obtain ⟨_, h, hF⟩ := e_bind hF
      rw [hc]
      (conv => arg 1; whnf)
      rw [hce, hcf]
      (conv => arg 1; whnf)
      (first | refine go_map hcaps rfl ?_ | refine goT_map hcaps rfl ?_)
      (conv => arg 1; whnf)
      obtain ⟨z, hz1, hz2, hz3⟩ := hcall _ _ h
      (first | refine go_exi z ⟨levs_eq hz1.symm, hz2⟩ ?_ | refine goT_exi z ⟨levs_eq hz1.symm, hz2⟩ ?_)
      rw [hz3]
      (conv => arg 1; whnf)
      refine st1 ?_
      rcases e_bif hF with ⟨hb6, hF⟩ | ⟨hb6, hF⟩ <;> (first | rw [hb6] | (conv => arg 7; rw [hb6]) | (conv => arg 9; rw [hb6]))
      · refine st1 ?_
        have hF := e_some hF
        have hq : some _ = some _ := hF
        cases hq
        exact en1
      · refine st1 ?_
        exact k_loopF (e_some hF) hx1 () [] ⟨sT, sS, by rfl, by rfl⟩
    · refine st1 ?_
      have hF := e_some hF
      have hq : some _ = some _ := hF
      cases hq
      exact en1


@[reducible] noncomputable def c_numbers_Within_1 : Con := conF F_numbers_Within_1 (fun x => match x with | (a0, c0, c1) => [(V.v (.int .i64 (a0))), (V.fptr [(V.v (.int .i64 (c0)))]), (V.fptr [(V.v (.int .i64 (c1)))])]) (fun r => (V.v (.bool (r))))
theorem h_numbers_Within_1 : Has Try.prog 66 c_numbers_Within_1 := by
  refine hasF ctx_nil mix Try.func66 rfl (by kernel_rfl) ?_
  rintro ⟨a0, c0, c1⟩ r hF
  refine ⟨of_decide_eq_true rfl, ?_⟩
  refine st1 ?_
  rcases e_bif hF with ⟨hb1, hF⟩ | ⟨hb1, hF⟩ <;> (first | rw [hb1] | (conv => arg 7; rw [hb1]) | (conv => arg 9; rw [hb1]))
  · refine st1 ?_
    have hq : some _ = some _ := hF
    cases hq
    exact en1
  · refine st1 ?_
    have hq : some _ = some _ := hF
    cases hq
    exact en1


@[reducible] noncomputable def c_numbers_Within : Con := conF F_numbers_Within (fun x => match x with | (a0, a1, a2) => [(V.v (.int .i64 (a0))), (V.v (.int .i64 (a1))), (V.sl (recs (eI .i64) (a2)) (a2).length)]) (fun r => (V.v (.bool (r))))
theorem h_numbers_Within : Has Try.prog 41 c_numbers_Within := by
  refine hasF (ctx_cons (h_numbers_Every_int (ctx_cons h_numbers_Within_1 ctx_nil)) ctx_nil) mix Try.func41 rfl (by kernel_rfl) ?_
  rintro ⟨a0, a1, a2⟩ r hF
  refine ⟨of_decide_eq_true rfl, ?_⟩
  refine st1 ?_
  obtain ⟨_, h, hF⟩ := e_bind hF
  (first | refine g_hcall h lv1 (callable_conF rfl rfl (fun _ => rfl)) ?_ | refine g_hcallT h lv1 (callable_conF rfl rfl (fun _ => rfl)) ?_)
  (conv => arg 1; whnf)
  refine st1 ?_
  have hq : some _ = some _ := hF
  cases hq
  exact en1


@[reducible] noncomputable def c_tow_validHull : Con := conF F_tow_validHull (fun x => match x with | (a0) => [(V.agg (eTTowHull a0))]) (fun r => (V.v (.bool (r))))
theorem h_tow_validHull : Has Try.prog 60 c_tow_validHull := by
  refine hasF (ctx_cons h_numbers_Within ctx_nil) mix Try.func60 rfl (by kernel_rfl) ?_
  rintro a0 r hF
  refine ⟨of_decide_eq_true rfl, ?_⟩
  refine st1 ?_
  obtain ⟨_, h, hF⟩ := e_bind hF
  (first | refine g_call h lv1 ?_ | refine g_callT h lv1 ?_)
  (conv => arg 1; whnf)
  refine st1 ?_
  rcases e_bif hF with ⟨hb1, hF⟩ | ⟨hb1, hF⟩ <;> (first | rw [hb1] | (conv => arg 7; rw [hb1]) | (conv => arg 9; rw [hb1]))
  · refine st1 ?_
    obtain ⟨_, h, hF⟩ := e_bind hF
    (first | refine g_call h lv1 ?_ | refine g_callT h lv1 ?_)
    (conv => arg 1; whnf)
    refine st1 ?_
    rcases e_bif hF with ⟨hb2, hF⟩ | ⟨hb2, hF⟩ <;> (first | rw [hb2] | (conv => arg 7; rw [hb2]) | (conv => arg 9; rw [hb2]))
    · refine st1 ?_
      obtain ⟨_, h, hF⟩ := e_bind hF
      (first | refine g_call h lv1 ?_ | refine g_callT h lv1 ?_)
      (conv => arg 1; whnf)
      refine st1 ?_
      have hq : some _ = some _ := hF
      cases hq
      exact en1
    · refine st1 ?_
      have hq : some _ = some _ := hF
      cases hq
      exact en1
  · refine st1 ?_
    have hq : some _ = some _ := hF
    cases hq
    exact en1


@[reducible] noncomputable def c_numbers_Every_TowHull (C : FuncId → Option Con) : Con := conK F_numbers_Every_TowHull (fun x => match x with | (a0, a1, g, caps) => [(V.sl (recs eTTowHull (a0)) (a0).length), (V.fn g caps)]) (fun x => match x with | (a0, a1, g, caps) => Callable (ext C []) g caps (fun x => match x with | (q0) => [(V.agg (eTTowHull q0))]) (fun r => (V.v (.bool (r)))) a1) (fun r => (V.v (.bool (r))))
theorem h_numbers_Every_TowHull {C : FuncId → Option Con} (hC : CtxOK Try.prog C) : Has Try.prog 61 (c_numbers_Every_TowHull C) := by
  refine hasK (ext_nil hC) mix Try.func61 rfl (by kernel_rfl) ?_
  rintro ⟨a0, a1, g, caps⟩ r hcl hF
  obtain ⟨hcaps, c, hc, hce, hcf, hcall⟩ := id hcl
  refine ⟨of_decide_eq_true rfl, ?_⟩
  refine st1 ?_
  refine st_loopF (e_assoc hF) () [] ⟨sT, sS, by rfl, by rfl⟩ ?_
  · rintro n _ _ x hx1 hF
    (conv => arg 7; whnf); (conv => arg 8; whnf); (conv => arg 9; whnf)
    refine st1 ?_
    rcases e_bif hF with ⟨hb5, hF⟩ | ⟨hb5, hF⟩ <;> (first | rw [hb5] | (conv => arg 7; rw [hb5]) | (conv => arg 9; rw [hb5]))
    · refine st1 ?_
      obtain ⟨_, h, hF⟩ := e_bind hF
      (first | refine o_ia (enc := eTTowHull) (s := 3) h (fun _ => rfl) (by decide) ?_ | refine o_iaT (enc := eTTowHull) (s := 3) h (fun _ => rfl) (by decide) ?_)
      intro _
      refine st1 ?_
      obtain ⟨_, h, hF⟩ := e_bind hF
      rw [hc]
      (conv => arg 1; whnf)
      rw [hce, hcf]
      (conv => arg 1; whnf)
      (first | refine go_map hcaps rfl ?_ | refine goT_map hcaps rfl ?_)
      (conv => arg 1; whnf)
      obtain ⟨z, hz1, hz2, hz3⟩ := hcall _ _ h
      (first | refine go_exi z ⟨levs_eq hz1.symm, hz2⟩ ?_ | refine goT_exi z ⟨levs_eq hz1.symm, hz2⟩ ?_)
      rw [hz3]
      (conv => arg 1; whnf)
      refine st1 ?_
      rcases e_bif hF with ⟨hb6, hF⟩ | ⟨hb6, hF⟩ <;> (first | rw [hb6] | (conv => arg 7; rw [hb6]) | (conv => arg 9; rw [hb6]))
      · refine st1 ?_
        have hF := e_some hF
        have hq : some _ = some _ := hF
        cases hq
        exact en1
      · refine st1 ?_
        exact k_loopF (e_some hF) hx1 () [] ⟨sT, sS, by rfl, by rfl⟩
    · refine st1 ?_
      have hF := e_some hF
      have hq : some _ = some _ := hF
      cases hq
      exact en1


@[reducible] noncomputable def c_tow_validTow : Con := conF F_tow_validTow (fun x => match x with | (a0) => [(V.agg (eTTow a0))]) (fun r => (V.v (.bool (r))))
theorem h_tow_validTow : Has Try.prog 36 c_tow_validTow := by
  refine hasF (ctx_cons (h_numbers_Every_TowHull (ctx_cons h_tow_validHull ctx_nil)) (ctx_cons h_tow_validHull (ctx_cons h_numbers_Within ctx_nil))) mix Try.func36 rfl (by kernel_rfl) ?_
  rintro a0 r hF
  refine ⟨of_decide_eq_true rfl, ?_⟩
  refine st1 ?_
  obtain ⟨_, h, hF⟩ := e_bind hF
  (first | refine g_call h lv1 ?_ | refine g_callT h lv1 ?_)
  (conv => arg 1; whnf)
  refine st1 ?_
  rcases e_bif hF with ⟨hb1, hF⟩ | ⟨hb1, hF⟩ <;> (first | rw [hb1] | (conv => arg 7; rw [hb1]) | (conv => arg 9; rw [hb1]))
  · refine st1 ?_
    have hq : some _ = some _ := hF
    cases hq
    exact en1
  · refine st1 ?_
    obtain ⟨_, h, hF⟩ := e_bind hF
    (first | refine g_call h lv1 ?_ | refine g_callT h lv1 ?_)
    (conv => arg 1; whnf)
    refine st1 ?_
    rcases e_bif hF with ⟨hb2, hF⟩ | ⟨hb2, hF⟩ <;> (first | rw [hb2] | (conv => arg 7; rw [hb2]) | (conv => arg 9; rw [hb2]))
    · refine st1 ?_
      have hq : some _ = some _ := hF
      cases hq
      exact en1
    · refine st1 ?_
      rcases e_bif hF with ⟨hb3, hF⟩ | ⟨hb3, hF⟩ <;> (first | rw [hb3] | (conv => arg 7; rw [hb3]) | (conv => arg 9; rw [hb3]))
      · refine st1 ?_
        have hq : some _ = some _ := hF
        cases hq
        exact en1
      · refine st1 ?_
        refine st_loopF (e_assoc hF) () [] ⟨sT, sS, by rfl, by rfl⟩ ?_
        · rintro n ⟨_, _⟩ _ x hx1 hF
          (conv => arg 7; whnf); (conv => arg 8; whnf); (conv => arg 9; whnf)
          refine st1 ?_
          rcases e_bif hF with ⟨hb10, hF⟩ | ⟨hb10, hF⟩ <;> (first | rw [hb10] | (conv => arg 7; rw [hb10]) | (conv => arg 9; rw [hb10]))
          · refine st1 ?_
            obtain ⟨_, h, hF⟩ := e_bind hF
            (first | refine o_ia (enc := (eS eTTowHull)) (s := 1) h (fun _ => rfl) (by decide) ?_ | refine o_iaT (enc := (eS eTTowHull)) (s := 1) h (fun _ => rfl) (by decide) ?_)
            intro _
            refine st1 ?_
            obtain ⟨_, h, hF⟩ := e_bind hF
            (first | refine g_call h lv1 ?_ | refine g_callT h lv1 ?_)
            (conv => arg 1; whnf)
            refine st1 ?_
            rcases e_bif hF with ⟨hb11, hF⟩ | ⟨hb11, hF⟩ <;> (first | rw [hb11] | (conv => arg 7; rw [hb11]) | (conv => arg 9; rw [hb11]))
            · refine st1 ?_
              have hF := e_some hF
              have hq : some _ = some _ := hF
              cases hq
              exact en1
            · refine st1 ?_
              obtain ⟨_, h, hF⟩ := e_bind hF
              (first | refine g_hcall h lv1 (callable_conF rfl rfl (fun _ => rfl)) ?_ | refine g_hcallT h lv1 (callable_conF rfl rfl (fun _ => rfl)) ?_)
              (conv => arg 1; whnf)
              refine st1 ?_
              rcases e_bif hF with ⟨hb12, hF⟩ | ⟨hb12, hF⟩ <;> (first | rw [hb12] | (conv => arg 7; rw [hb12]) | (conv => arg 9; rw [hb12]))
              · refine st1 ?_
                have hF := e_some hF
                have hq : some _ = some _ := hF
                cases hq
                exact en1
              · refine st1 ?_
                exact k_loopF (e_some hF) hx1 () [] ⟨sT, sS, by rfl, by rfl⟩
          · refine st1 ?_
            have hF := e_some hF
            have hq : some _ = some _ := hF
            cases hq
            exact en1


@[reducible] noncomputable def c_tow_abreast : Con := conF F_tow_abreast (fun x => match x with | (a0) => [(V.sl (recs eTTowHull (a0)) (a0).length)]) (fun r => (V.agg (eTTowSize r)))
theorem h_tow_abreast : Has Try.prog 37 c_tow_abreast := by
  refine hasF ctx_nil mix Try.func37 rfl (by kernel_rfl) ?_
  rintro a0 r hF
  refine ⟨of_decide_eq_true rfl, ?_⟩
  refine st1 ?_
  refine st_loopF (e_assoc hF) () [(0, _), (4, _)] ⟨sT, sS, by rfl, by rfl⟩ ?_
  · rintro n ⟨_, _, _, _⟩ _ x hx1 hF
    (conv => arg 7; whnf); (conv => arg 8; whnf); (conv => arg 9; whnf)
    refine st1 ?_
    rcases e_bif hF with ⟨hb3, hF⟩ | ⟨hb3, hF⟩ <;> (first | rw [hb3] | (conv => arg 7; rw [hb3]) | (conv => arg 9; rw [hb3]))
    · refine st1 ?_
      obtain ⟨_, h, hF⟩ := e_bind hF
      (first | refine o_ia (enc := eTTowHull) (s := 3) h (fun _ => rfl) (by decide) ?_ | refine o_iaT (enc := eTTowHull) (s := 3) h (fun _ => rfl) (by decide) ?_)
      intro _
      refine st1 ?_
      exact k_loopF (e_some hF) hx1 () [(0, _), (4, _)] ⟨sT, sS, by rfl, by rfl⟩
    · refine st1 ?_
      have hF := e_some hF
      have hq : some _ = some _ := hF
      cases hq
      exact en1


@[reducible] noncomputable def c_tow_Measure : Con := conF F_tow_Measure (fun x => match x with | (a0) => [(V.agg (eTTow a0))]) (fun r => V.tup [(V.agg (eTTowSize r.1)), (V.v (.int .i64 (r.2)))])
theorem h_tow_Measure : Has Try.prog 11 c_tow_Measure := by
  refine hasF (ctx_cons h_tow_abreast (ctx_cons h_tow_validTow ctx_nil)) mix Try.func11 rfl (by kernel_rfl) ?_
  rintro a0 r hF
  refine ⟨of_decide_eq_true rfl, ?_⟩
  refine st1 ?_
  obtain ⟨_, h, hF⟩ := e_bind hF
  (first | refine g_call h lv1 ?_ | refine g_callT h lv1 ?_)
  (conv => arg 1; whnf)
  refine st1 ?_
  rcases e_bif hF with ⟨hb1, hF⟩ | ⟨hb1, hF⟩ <;> (first | rw [hb1] | (conv => arg 7; rw [hb1]) | (conv => arg 9; rw [hb1]))
  · refine st1 ?_
    have hq : some _ = some _ := hF
    cases hq
    exact en1
  · refine st1 ?_
    refine st_loopF (e_assoc hF) () [(1, _), (16, _)] ⟨sT, sS, by rfl, by rfl⟩ ?_
    · rintro n ⟨_, _, _, _, _⟩ _ x hx1 hF
      (conv => arg 7; whnf); (conv => arg 8; whnf); (conv => arg 9; whnf)
      refine st1 ?_
      rcases e_bif hF with ⟨hb4, hF⟩ | ⟨hb4, hF⟩ <;> (first | rw [hb4] | (conv => arg 7; rw [hb4]) | (conv => arg 9; rw [hb4]))
      · refine st1 ?_
        obtain ⟨_, h, hF⟩ := e_bind hF
        (first | refine o_ia (enc := (eS eTTowHull)) (s := 1) h (fun _ => rfl) (by decide) ?_ | refine o_iaT (enc := (eS eTTowHull)) (s := 1) h (fun _ => rfl) (by decide) ?_)
        intro _
        refine st1 ?_
        obtain ⟨_, h, hF⟩ := e_bind hF
        (first | refine g_call h lv1 ?_ | refine g_callT h lv1 ?_)
        (conv => arg 1; whnf)
        refine st1 ?_
        exact k_loopF (e_some hF) hx1 () [(1, _), (16, _)] ⟨sT, sS, by rfl, by rfl⟩
      · refine st1 ?_
        have hF := e_some hF
        have hq : some _ = some _ := hF
        cases hq
        exact en1


@[reducible] noncomputable def c_numbers_Valid : Con := conF F_numbers_Valid (fun x => match x with | (a0, a1, a2) => [(V.agg (eTBounds a0)), (V.v (.int .i64 (a1))), (V.v (.int .i64 (a2)))]) (fun r => (V.v (.bool (r))))
theorem h_numbers_Valid : Has Try.prog 46 c_numbers_Valid := by
  refine hasF (ctx_cons h_numbers_Within ctx_nil) mix Try.func46 rfl (by kernel_rfl) ?_
  rintro ⟨a0, a1, a2⟩ r hF
  refine ⟨of_decide_eq_true rfl, ?_⟩
  refine st1 ?_
  rcases e_bif hF with ⟨hb1, hF⟩ | ⟨hb1, hF⟩ <;> (first | rw [hb1] | (conv => arg 7; rw [hb1]) | (conv => arg 9; rw [hb1]))
  · refine st1 ?_
    obtain ⟨_, h, hF⟩ := e_bind hF
    (first | refine g_call h lv1 ?_ | refine g_callT h lv1 ?_)
    (conv => arg 1; whnf)
    refine st1 ?_
    have hq : some _ = some _ := hF
    cases hq
    exact en1
  · refine st1 ?_
    have hq : some _ = some _ := hF
    cases hq
    exact en1


@[reducible] noncomputable def c_tow_canStop : Con := conF F_tow_canStop (fun x => match x with | (a0, a1, a2) => [(V.v (.int .i64 (a0))), (V.v (.int .i64 (a1))), (V.agg (eTBounds a2))]) (fun r => (V.v (.bool (r))))
theorem h_tow_canStop : Has Try.prog 40 c_tow_canStop := by
  refine hasF (ctx_cons h_numbers_Valid (ctx_cons h_numbers_Within ctx_nil)) mix Try.func40 rfl (by kernel_rfl) ?_
  rintro ⟨a0, a1, a2⟩ r hF
  refine ⟨of_decide_eq_true rfl, ?_⟩
  refine st1 ?_
  obtain ⟨_, h, hF⟩ := e_bind hF
  (first | refine g_call h lv1 ?_ | refine g_callT h lv1 ?_)
  (conv => arg 1; whnf)
  refine st1 ?_
  rcases e_bif hF with ⟨hb1, hF⟩ | ⟨hb1, hF⟩ <;> (first | rw [hb1] | (conv => arg 7; rw [hb1]) | (conv => arg 9; rw [hb1]))
  · refine st1 ?_
    obtain ⟨_, h, hF⟩ := e_bind hF
    (first | refine g_call h lv1 ?_ | refine g_callT h lv1 ?_)
    (conv => arg 1; whnf)
    refine st1 ?_
    rcases e_bif hF with ⟨hb2, hF⟩ | ⟨hb2, hF⟩ <;> (first | rw [hb2] | (conv => arg 7; rw [hb2]) | (conv => arg 9; rw [hb2]))
    · refine st1 ?_
      obtain ⟨_, h, hF⟩ := e_bind hF
      (first | refine g_call h lv1 ?_ | refine g_callT h lv1 ?_)
      (conv => arg 1; whnf)
      refine st1 ?_
      have hq : some _ = some _ := hF
      cases hq
      exact en1
    · refine st1 ?_
      have hq : some _ = some _ := hF
      cases hq
      exact en1
  · refine st1 ?_
    have hq : some _ = some _ := hF
    cases hq
    exact en1


@[reducible] noncomputable def c_tow_stop_1 (C : FuncId → Option Con) : Con := conK F_tow_stop_1 (fun x => match x with | (a0, a1, g, caps, c0, c1, c2) => [(V.v (.int .i64 (a0))), (V.fn g caps), (V.fptr [(V.v (.int .i64 (c0)))]), (V.fptr [(V.v (.int .i64 (c1)))]), (V.fptr [(V.v (.int .i64 (c2)))])]) (fun x => match x with | (a0, a1, g, caps, c0, c1, c2) => Callable (ext C []) g caps (fun x => match x with | (q0, q1) => [(V.v (.int .i64 (q0))), (V.v (.int .i64 (q1)))]) (fun r => (V.v (.int .i64 (r)))) a1) (fun r => (V.v (.int .i64 (r))))
theorem h_tow_stop_1 {C : FuncId → Option Con} (hC : CtxOK Try.prog C) : Has Try.prog 67 (c_tow_stop_1 C) := by
  refine hasK (ext_nil hC) mix Try.func67 rfl (by kernel_rfl) ?_
  rintro ⟨a0, a1, g, caps, c0, c1, c2⟩ r hcl hF
  obtain ⟨hcaps, c, hc, hce, hcf, hcall⟩ := id hcl
  refine ⟨of_decide_eq_true rfl, ?_⟩
  refine st1 ?_
  obtain ⟨_, h, hF⟩ := e_bind hF
  rw [hc]
  (conv => arg 1; whnf)
  rw [hce, hcf]
  (conv => arg 1; whnf)
  (first | refine go_map hcaps rfl ?_ | refine goT_map hcaps rfl ?_)
  (conv => arg 1; whnf)
  obtain ⟨z, hz1, hz2, hz3⟩ := hcall _ _ h
  (first | refine go_exi z ⟨levs_eq hz1.symm, hz2⟩ ?_ | refine goT_exi z ⟨levs_eq hz1.symm, hz2⟩ ?_)
  rw [hz3]
  (conv => arg 1; whnf)
  refine st1 ?_
  have hq : some _ = some _ := hF
  cases hq
  exact en1


@[reducible] noncomputable def c_numbers_Down : Con := conF F_numbers_Down (fun x => match x with | (a0, a1) => [(V.v (.int .i64 (a0))), (V.v (.int .i64 (a1)))]) (fun r => (V.v (.int .i64 (r))))
theorem h_numbers_Down : Has Try.prog 68 c_numbers_Down := by
  refine hasF ctx_nil mix Try.func68 rfl (by kernel_rfl) ?_
  rintro ⟨a0, a1⟩ r hF
  refine ⟨of_decide_eq_true rfl, ?_⟩
  refine st1 ?_
  obtain ⟨_, h, hF⟩ := e_bind hF
  (first | refine go_req (nz_ne h) ?_ | refine goT_req (nz_ne h) ?_)
  (conv => arg 1; whnf)
  refine st1 ?_
  rcases e_bif hF with ⟨hb1, hF⟩ | ⟨hb1, hF⟩ <;> (first | rw [hb1] | (conv => arg 7; rw [hb1]) | (conv => arg 9; rw [hb1]))
  · refine st1 ?_
    obtain ⟨_, h, hF⟩ := e_bind hF
    (first | refine go_req (nz_ne h) ?_ | refine goT_req (nz_ne h) ?_)
    (conv => arg 1; whnf)
    refine st1 ?_
    have hq : some _ = some _ := hF
    cases hq
    exact en1
  · refine st1 ?_
    obtain ⟨_, h, hF⟩ := e_bind hF
    (first | refine go_req (nz_ne h) ?_ | refine goT_req (nz_ne h) ?_)
    (conv => arg 1; whnf)
    refine st1 ?_
    have hq : some _ = some _ := hF
    cases hq
    exact en1


@[reducible] noncomputable def c_numbers_Up : Con := conF F_numbers_Up (fun x => match x with | (a0, a1) => [(V.v (.int .i64 (a0))), (V.v (.int .i64 (a1)))]) (fun r => (V.v (.int .i64 (r))))
theorem h_numbers_Up : Has Try.prog 69 c_numbers_Up := by
  refine hasF (ctx_cons h_numbers_Down ctx_nil) mix Try.func69 rfl (by kernel_rfl) ?_
  rintro ⟨a0, a1⟩ r hF
  refine ⟨of_decide_eq_true rfl, ?_⟩
  refine st1 ?_
  obtain ⟨_, h, hF⟩ := e_bind hF
  (first | refine g_call h lv1 ?_ | refine g_callT h lv1 ?_)
  (conv => arg 1; whnf)
  refine st1 ?_
  have hq : some _ = some _ := hF
  cases hq
  exact en1


@[reducible] noncomputable def c_tow_stop : Con := conF F_tow_stop (fun x => match x with | (a0, a1, a2, a3) => [(V.v (.int .i64 (a0))), (V.v (.int .i64 (a1))), (V.agg (eTBounds a2)), (V.v (.int .i64 (a3)))]) (fun r => (V.agg (eTBounds r)))
theorem h_tow_stop : Has Try.prog 42 c_tow_stop := by
  refine hasF (ctx_cons (h_tow_stop_1 (ctx_cons h_numbers_Up (ctx_cons h_numbers_Down ctx_nil))) ctx_nil) mix Try.func42 rfl (by kernel_rfl) ?_
  rintro ⟨a0, a1, a2, a3⟩ r hF
  refine ⟨of_decide_eq_true rfl, ?_⟩
  refine st1 ?_
  obtain ⟨_, h, hF⟩ := e_bind hF
  (first | refine g_hcall h lv1 (callable_conF rfl rfl (fun _ => rfl)) ?_ | refine g_hcallT h lv1 (callable_conF rfl rfl (fun _ => rfl)) ?_)
  (conv => arg 1; whnf)
  refine st1 ?_
  obtain ⟨_, h, hF⟩ := e_bind hF
  (first | refine g_hcall h lv1 (callable_conF rfl rfl (fun _ => rfl)) ?_ | refine g_hcallT h lv1 (callable_conF rfl rfl (fun _ => rfl)) ?_)
  (conv => arg 1; whnf)
  refine st1 ?_
  have hq : some _ = some _ := hF
  cases hq
  exact en1


@[reducible] noncomputable def c_tow_Stop : Con := conF F_tow_Stop (fun x => match x with | (a0, a1, a2, a3) => [(V.v (.int .i64 (a0))), (V.v (.int .i64 (a1))), (V.agg (eTBounds a2)), (V.v (.int .i64 (a3)))]) (fun r => V.tup [(V.agg (eTBounds r.1)), (V.v (.int .i64 (r.2)))])
theorem h_tow_Stop : Has Try.prog 14 c_tow_Stop := by
  refine hasF (ctx_cons h_tow_stop (ctx_cons h_numbers_Within (ctx_cons h_tow_canStop ctx_nil))) mix Try.func14 rfl (by kernel_rfl) ?_
  rintro ⟨a0, a1, a2, a3⟩ r hF
  refine ⟨of_decide_eq_true rfl, ?_⟩
  refine st1 ?_
  obtain ⟨_, h, hF⟩ := e_bind hF
  (first | refine g_call h lv1 ?_ | refine g_callT h lv1 ?_)
  (conv => arg 1; whnf)
  refine st1 ?_
  rcases e_bif hF with ⟨hb1, hF⟩ | ⟨hb1, hF⟩ <;> (first | rw [hb1] | (conv => arg 7; rw [hb1]) | (conv => arg 9; rw [hb1]))
  · refine st1 ?_
    have hq : some _ = some _ := hF
    cases hq
    exact en1
  · refine st1 ?_
    obtain ⟨_, h, hF⟩ := e_bind hF
    (first | refine g_call h lv1 ?_ | refine g_callT h lv1 ?_)
    (conv => arg 1; whnf)
    refine st1 ?_
    rcases e_bif hF with ⟨hb2, hF⟩ | ⟨hb2, hF⟩ <;> (first | rw [hb2] | (conv => arg 7; rw [hb2]) | (conv => arg 9; rw [hb2]))
    · refine st1 ?_
      have hq : some _ = some _ := hF
      cases hq
      exact en1
    · refine st1 ?_
      obtain ⟨_, h, hF⟩ := e_bind hF
      (first | refine g_call h lv1 ?_ | refine g_callT h lv1 ?_)
      (conv => arg 1; whnf)
      refine st1 ?_
      have hq : some _ = some _ := hF
      cases hq
      exact en1


@[reducible] noncomputable def c_sort_Search (C : FuncId → Option Con) : Con := conK F_sort_Search (fun x => match x with | (a0, a1, g, caps) => [(V.v (.int .i64 (a0))), (V.fn g caps)]) (fun x => match x with | (a0, a1, g, caps) => Callable (ext C []) g caps (fun x => match x with | (q0) => [(V.v (.int .i64 (q0)))]) (fun r => (V.v (.bool (r)))) a1) (fun r => (V.v (.int .i64 (r))))
theorem h_sort_Search {C : FuncId → Option Con} (hC : CtxOK Try.prog C) : Has Try.prog 43 (c_sort_Search C) := by
  refine hasK (ext_nil hC) mix Try.func43 rfl (by kernel_rfl) ?_
  rintro ⟨a0, a1, g, caps⟩ r hcl hF
  obtain ⟨hcaps, c, hc, hce, hcf, hcall⟩ := id hcl
  refine ⟨of_decide_eq_true rfl, ?_⟩
  refine st1 ?_
  refine st_loopF (e_assoc hF) () [] ⟨sT, sS, by rfl, by rfl⟩ ?_
  · rintro n ⟨_, _⟩ _ x hx1 hF
    (conv => arg 7; whnf); (conv => arg 8; whnf); (conv => arg 9; whnf)
    refine st1 ?_
    rcases e_bif hF with ⟨hb5, hF⟩ | ⟨hb5, hF⟩ <;> (first | rw [hb5] | (conv => arg 7; rw [hb5]) | (conv => arg 9; rw [hb5]))
    · refine st1 ?_
      obtain ⟨_, h, hF⟩ := e_bind hF
      rw [hc]
      (conv => arg 1; whnf)
      rw [hce, hcf]
      (conv => arg 1; whnf)
      (first | refine go_map hcaps rfl ?_ | refine goT_map hcaps rfl ?_)
      (conv => arg 1; whnf)
      obtain ⟨z, hz1, hz2, hz3⟩ := hcall _ _ h
      (first | refine go_exi z ⟨levs_eq hz1.symm, hz2⟩ ?_ | refine goT_exi z ⟨levs_eq hz1.symm, hz2⟩ ?_)
      rw [hz3]
      (conv => arg 1; whnf)
      refine st1 ?_
      rcases e_bif hF with ⟨hb6, hF⟩ | ⟨hb6, hF⟩ <;> (first | rw [hb6] | (conv => arg 7; rw [hb6]) | (conv => arg 9; rw [hb6]))
      · refine st1 ?_
        exact k_loopF (e_some hF) hx1 () [] ⟨sT, sS, by rfl, by rfl⟩
      · refine st1 ?_
        exact k_loopF (e_some hF) hx1 () [] ⟨sT, sS, by rfl, by rfl⟩
    · refine st1 ?_
      have hF := e_some hF
      have hq : some _ = some _ := hF
      cases hq
      exact en1


@[reducible] noncomputable def c_tow_Safe_1 : Con := conF F_tow_Safe_1 (fun x => match x with | (a0, c0, c1, c2, c3) => [(V.v (.int .i64 (a0))), (V.fptr [(V.v (.int .i64 (c0)))]), (V.fptr [(V.v (.int .i64 (c1)))]), (V.fptr [(V.v (.int .i64 (c2.Low))), (V.v (.int .i64 (c2.High)))]), (V.fptr [(V.v (.int .i64 (c3)))])]) (fun r => (V.v (.bool (r))))
theorem h_tow_Safe_1 : Has Try.prog 44 c_tow_Safe_1 := by
  refine hasF (ctx_cons h_tow_stop ctx_nil) mix Try.func44 rfl (by kernel_rfl) ?_
  rintro ⟨a0, c0, c1, c2, c3⟩ r hF
  refine ⟨of_decide_eq_true rfl, ?_⟩
  refine st1 ?_
  obtain ⟨_, h, hF⟩ := e_bind hF
  (first | refine g_call h lv1 ?_ | refine g_callT h lv1 ?_)
  (conv => arg 1; whnf)
  refine st1 ?_
  have hq : some _ = some _ := hF
  cases hq
  exact en1


@[reducible] noncomputable def c_tow_Safe : Con := conF F_tow_Safe (fun x => match x with | (a0, a1, a2, a3) => [(V.v (.int .i64 (a0))), (V.v (.int .i64 (a1))), (V.agg (eTBounds a2)), (V.v (.int .i64 (a3)))]) (fun r => V.tup [(V.v (.int .i64 (r.1))), (V.v (.int .i64 (r.2)))])
theorem h_tow_Safe : Has Try.prog 15 c_tow_Safe := by
  refine hasF (ctx_cons (h_sort_Search (ctx_cons h_tow_Safe_1 ctx_nil)) (ctx_cons h_numbers_Within (ctx_cons h_tow_canStop ctx_nil))) mix Try.func15 rfl (by kernel_rfl) ?_
  rintro ⟨a0, a1, a2, a3⟩ r hF
  refine ⟨of_decide_eq_true rfl, ?_⟩
  refine st1 ?_
  obtain ⟨_, h, hF⟩ := e_bind hF
  (first | refine g_call h lv1 ?_ | refine g_callT h lv1 ?_)
  (conv => arg 1; whnf)
  refine st1 ?_
  rcases e_bif hF with ⟨hb1, hF⟩ | ⟨hb1, hF⟩ <;> (first | rw [hb1] | (conv => arg 7; rw [hb1]) | (conv => arg 9; rw [hb1]))
  · refine st1 ?_
    have hq : some _ = some _ := hF
    cases hq
    exact en1
  · refine st1 ?_
    obtain ⟨_, h, hF⟩ := e_bind hF
    (first | refine g_call h lv1 ?_ | refine g_callT h lv1 ?_)
    (conv => arg 1; whnf)
    refine st1 ?_
    rcases e_bif hF with ⟨hb2, hF⟩ | ⟨hb2, hF⟩ <;> (first | rw [hb2] | (conv => arg 7; rw [hb2]) | (conv => arg 9; rw [hb2]))
    · refine st1 ?_
      have hq : some _ = some _ := hF
      cases hq
      exact en1
    · refine st1 ?_
      obtain ⟨_, h, hF⟩ := e_bind hF
      (first | refine g_hcall h lv1 (callable_conF rfl rfl (fun _ => rfl)) ?_ | refine g_hcallT h lv1 (callable_conF rfl rfl (fun _ => rfl)) ?_)
      (conv => arg 1; whnf)
      refine st1 ?_
      have hq : some _ = some _ := hF
      cases hq
      exact en1


@[reducible] noncomputable def c_numbers_Every_Run (C : FuncId → Option Con) : Con := conK F_numbers_Every_Run (fun x => match x with | (a0, a1, g, caps) => [(V.sl (recs eTRun (a0)) (a0).length), (V.fn g caps)]) (fun x => match x with | (a0, a1, g, caps) => Callable (ext C []) g caps (fun x => match x with | (q0) => [(V.agg (eTRun q0))]) (fun r => (V.v (.bool (r)))) a1) (fun r => (V.v (.bool (r))))
theorem h_numbers_Every_Run {C : FuncId → Option Con} (hC : CtxOK Try.prog C) : Has Try.prog 47 (c_numbers_Every_Run C) := by
  refine hasK (ext_nil hC) mix Try.func47 rfl (by kernel_rfl) ?_
  rintro ⟨a0, a1, g, caps⟩ r hcl hF
  obtain ⟨hcaps, c, hc, hce, hcf, hcall⟩ := id hcl
  refine ⟨of_decide_eq_true rfl, ?_⟩
  refine st1 ?_
  refine st_loopF (e_assoc hF) () [] ⟨sT, sS, by rfl, by rfl⟩ ?_
  · rintro n _ _ x hx1 hF
    (conv => arg 7; whnf); (conv => arg 8; whnf); (conv => arg 9; whnf)
    refine st1 ?_
    rcases e_bif hF with ⟨hb5, hF⟩ | ⟨hb5, hF⟩ <;> (first | rw [hb5] | (conv => arg 7; rw [hb5]) | (conv => arg 9; rw [hb5]))
    · refine st1 ?_
      obtain ⟨_, h, hF⟩ := e_bind hF
      (first | refine o_ia (enc := eTRun) (s := 6) h (fun _ => rfl) (by decide) ?_ | refine o_iaT (enc := eTRun) (s := 6) h (fun _ => rfl) (by decide) ?_)
      intro _
      refine st1 ?_
      obtain ⟨_, h, hF⟩ := e_bind hF
      rw [hc]
      (conv => arg 1; whnf)
      rw [hce, hcf]
      (conv => arg 1; whnf)
      (first | refine go_map hcaps rfl ?_ | refine goT_map hcaps rfl ?_)
      (conv => arg 1; whnf)
      obtain ⟨z, hz1, hz2, hz3⟩ := hcall _ _ h
      (first | refine go_exi z ⟨levs_eq hz1.symm, hz2⟩ ?_ | refine goT_exi z ⟨levs_eq hz1.symm, hz2⟩ ?_)
      rw [hz3]
      (conv => arg 1; whnf)
      refine st1 ?_
      rcases e_bif hF with ⟨hb6, hF⟩ | ⟨hb6, hF⟩ <;> (first | rw [hb6] | (conv => arg 7; rw [hb6]) | (conv => arg 9; rw [hb6]))
      · refine st1 ?_
        have hF := e_some hF
        have hq : some _ = some _ := hF
        cases hq
        exact en1
      · refine st1 ?_
        exact k_loopF (e_some hF) hx1 () [] ⟨sT, sS, by rfl, by rfl⟩
    · refine st1 ?_
      have hF := e_some hF
      have hq : some _ = some _ := hF
      cases hq
      exact en1


@[reducible] noncomputable def c_tow_validRun : Con := conF F_tow_validRun (fun x => match x with | (a0) => [(V.agg (eTRun a0))]) (fun r => (V.v (.bool (r))))
theorem h_tow_validRun : Has Try.prog 48 c_tow_validRun := by
  refine hasF (ctx_cons h_numbers_Valid (ctx_cons h_numbers_Within ctx_nil)) mix Try.func48 rfl (by kernel_rfl) ?_
  rintro a0 r hF
  refine ⟨of_decide_eq_true rfl, ?_⟩
  refine st1 ?_
  obtain ⟨_, h, hF⟩ := e_bind hF
  (first | refine g_call h lv1 ?_ | refine g_callT h lv1 ?_)
  (conv => arg 1; whnf)
  refine st1 ?_
  rcases e_bif hF with ⟨hb1, hF⟩ | ⟨hb1, hF⟩ <;> (first | rw [hb1] | (conv => arg 7; rw [hb1]) | (conv => arg 9; rw [hb1]))
  · refine st1 ?_
    rcases e_bif hF with ⟨hb2, hF⟩ | ⟨hb2, hF⟩ <;> (first | rw [hb2] | (conv => arg 7; rw [hb2]) | (conv => arg 9; rw [hb2]))
    · refine st1 ?_
      obtain ⟨_, h, hF⟩ := e_bind hF
      (first | refine g_call h lv1 ?_ | refine g_callT h lv1 ?_)
      (conv => arg 1; whnf)
      refine st1 ?_
      rcases e_bif hF with ⟨hb3, hF⟩ | ⟨hb3, hF⟩ <;> (first | rw [hb3] | (conv => arg 7; rw [hb3]) | (conv => arg 9; rw [hb3]))
      · refine st1 ?_
        obtain ⟨_, h, hF⟩ := e_bind hF
        (first | refine g_call h lv1 ?_ | refine g_callT h lv1 ?_)
        (conv => arg 1; whnf)
        refine st1 ?_
        have hq : some _ = some _ := hF
        cases hq
        exact en1
      · refine st1 ?_
        have hq : some _ = some _ := hF
        cases hq
        exact en1
    · refine st1 ?_
      have hq : some _ = some _ := hF
      cases hq
      exact en1
  · refine st1 ?_
    have hq : some _ = some _ := hF
    cases hq
    exact en1


@[reducible] noncomputable def c_tow_down : Con := conF F_tow_down (fun x => match x with | (a0) => [(V.agg (eTRun a0))]) (fun r => (V.v (.bool (r))))
theorem h_tow_down : Has Try.prog 70 c_tow_down := by
  refine hasF ctx_nil mix Try.func70 rfl (by kernel_rfl) ?_
  rintro a0 r hF
  refine ⟨of_decide_eq_true rfl, ?_⟩
  refine st1 ?_
  have hq : some _ = some _ := hF
  cases hq
  exact en1


@[reducible] noncomputable def c_tow_joined : Con := conF F_tow_joined (fun x => match x with | (a0) => [(V.sl (recs eTRun (a0)) (a0).length)]) (fun r => (V.v (.bool (r))))
theorem h_tow_joined : Has Try.prog 49 c_tow_joined := by
  refine hasF (ctx_cons h_tow_down ctx_nil) mix Try.func49 rfl (by kernel_rfl) ?_
  rintro a0 r hF
  refine ⟨of_decide_eq_true rfl, ?_⟩
  refine st1 ?_
  refine st_loopF (e_assoc hF) () [] ⟨sT, sS, by rfl, by rfl⟩ ?_
  · rintro n _ _ x hx1 hF
    (conv => arg 7; whnf); (conv => arg 8; whnf); (conv => arg 9; whnf)
    refine st1 ?_
    rcases e_bif hF with ⟨hb7, hF⟩ | ⟨hb7, hF⟩ <;> (first | rw [hb7] | (conv => arg 7; rw [hb7]) | (conv => arg 9; rw [hb7]))
    · refine st1 ?_
      obtain ⟨_, h, hF⟩ := e_bind hF
      (first | refine o_ia (enc := eTRun) (s := 6) h (fun _ => rfl) (by decide) ?_ | refine o_iaT (enc := eTRun) (s := 6) h (fun _ => rfl) (by decide) ?_)
      intro _
      refine st1 ?_
      obtain ⟨_, h, hF⟩ := e_bind hF
      (first | refine o_ia (enc := eTRun) (s := 6) h (fun _ => rfl) (by decide) ?_ | refine o_iaT (enc := eTRun) (s := 6) h (fun _ => rfl) (by decide) ?_)
      intro _
      refine st1 ?_
      rcases e_bif hF with ⟨hb8, hF⟩ | ⟨hb8, hF⟩ <;> (first | rw [hb8] | (conv => arg 7; rw [hb8]) | (conv => arg 9; rw [hb8]))
      · refine st1 ?_
        have hF := e_some hF
        have hq : some _ = some _ := hF
        cases hq
        exact en1
      · refine st1 ?_
        obtain ⟨_, h, hF⟩ := e_bind hF
        (first | refine o_ia (enc := eTRun) (s := 6) h (fun _ => rfl) (by decide) ?_ | refine o_iaT (enc := eTRun) (s := 6) h (fun _ => rfl) (by decide) ?_)
        intro _
        refine st1 ?_
        obtain ⟨_, h, hF⟩ := e_bind hF
        (first | refine g_call h lv1 ?_ | refine g_callT h lv1 ?_)
        (conv => arg 1; whnf)
        refine st1 ?_
        obtain ⟨_, h, hF⟩ := e_bind hF
        (first | refine o_ia (enc := eTRun) (s := 6) h (fun _ => rfl) (by decide) ?_ | refine o_iaT (enc := eTRun) (s := 6) h (fun _ => rfl) (by decide) ?_)
        intro _
        refine st1 ?_
        obtain ⟨_, h, hF⟩ := e_bind hF
        (first | refine g_call h lv1 ?_ | refine g_callT h lv1 ?_)
        (conv => arg 1; whnf)
        refine st1 ?_
        rcases e_bif hF with ⟨hb9, hF⟩ | ⟨hb9, hF⟩ <;> (first | rw [hb9] | (conv => arg 7; rw [hb9]) | (conv => arg 9; rw [hb9]))
        · refine st1 ?_
          have hF := e_some hF
          have hq : some _ = some _ := hF
          cases hq
          exact en1
        · refine st1 ?_
          exact k_loopF (e_some hF) hx1 () [] ⟨sT, sS, by rfl, by rfl⟩
    · refine st1 ?_
      have hF := e_some hF
      have hq : some _ = some _ := hF
      cases hq
      exact en1


@[reducible] noncomputable def c_tow_Check : Con := conF F_tow_Check (fun x => match x with | (a0) => [(V.agg (eTVoyage a0))]) (fun r => (V.v (.int .i64 (r))))
theorem h_tow_Check : Has Try.prog 20 c_tow_Check := by
  refine hasF (ctx_cons (h_numbers_Every_Run (ctx_cons h_tow_validRun ctx_nil)) (ctx_cons h_tow_joined (ctx_cons h_numbers_Valid (ctx_cons h_numbers_Within ctx_nil)))) mix Try.func20 rfl (by kernel_rfl) ?_
  rintro a0 r hF
  refine ⟨of_decide_eq_true rfl, ?_⟩
  refine st1 ?_
  obtain ⟨_, h, hF⟩ := e_bind hF
  (first | refine g_call h lv1 ?_ | refine g_callT h lv1 ?_)
  (conv => arg 1; whnf)
  refine st1 ?_
  rcases e_bif hF with ⟨hb1, hF⟩ | ⟨hb1, hF⟩ <;> (first | rw [hb1] | (conv => arg 7; rw [hb1]) | (conv => arg 9; rw [hb1]))
  · refine st1 ?_
    have hq : some _ = some _ := hF
    cases hq
    exact en1
  · refine st1 ?_
    obtain ⟨_, h, hF⟩ := e_bind hF
    (first | refine g_call h lv1 ?_ | refine g_callT h lv1 ?_)
    (conv => arg 1; whnf)
    refine st1 ?_
    rcases e_bif hF with ⟨hb2, hF⟩ | ⟨hb2, hF⟩ <;> (first | rw [hb2] | (conv => arg 7; rw [hb2]) | (conv => arg 9; rw [hb2]))
    · refine st1 ?_
      have hq : some _ = some _ := hF
      cases hq
      exact en1
    · refine st1 ?_
      obtain ⟨_, h, hF⟩ := e_bind hF
      (first | refine g_call h lv1 ?_ | refine g_callT h lv1 ?_)
      (conv => arg 1; whnf)
      refine st1 ?_
      rcases e_bif hF with ⟨hb3, hF⟩ | ⟨hb3, hF⟩ <;> (first | rw [hb3] | (conv => arg 7; rw [hb3]) | (conv => arg 9; rw [hb3]))
      · refine st1 ?_
        have hq : some _ = some _ := hF
        cases hq
        exact en1
      · refine st1 ?_
        obtain ⟨_, h, hF⟩ := e_bind hF
        (first | refine g_call h lv1 ?_ | refine g_callT h lv1 ?_)
        (conv => arg 1; whnf)
        refine st1 ?_
        rcases e_bif hF with ⟨hb4, hF⟩ | ⟨hb4, hF⟩ <;> (first | rw [hb4] | (conv => arg 7; rw [hb4]) | (conv => arg 9; rw [hb4]))
        · refine st1 ?_
          have hq : some _ = some _ := hF
          cases hq
          exact en1
        · refine st1 ?_
          obtain ⟨_, h, hF⟩ := e_bind hF
          (first | refine g_hcall h lv1 (callable_conF rfl rfl (fun _ => rfl)) ?_ | refine g_hcallT h lv1 (callable_conF rfl rfl (fun _ => rfl)) ?_)
          (conv => arg 1; whnf)
          refine st1 ?_
          rcases e_bif hF with ⟨hb5, hF⟩ | ⟨hb5, hF⟩ <;> (first | rw [hb5] | (conv => arg 7; rw [hb5]) | (conv => arg 9; rw [hb5]))
          · refine st1 ?_
            have hq : some _ = some _ := hF
            cases hq
            exact en1
          · refine st1 ?_
            obtain ⟨_, h, hF⟩ := e_bind hF
            (first | refine g_call h lv1 ?_ | refine g_callT h lv1 ?_)
            (conv => arg 1; whnf)
            refine st1 ?_
            rcases e_bif hF with ⟨hb6, hF⟩ | ⟨hb6, hF⟩ <;> (first | rw [hb6] | (conv => arg 7; rw [hb6]) | (conv => arg 9; rw [hb6]))
            · refine st1 ?_
              have hq : some _ = some _ := hF
              cases hq
              exact en1
            · refine st1 ?_
              have hq : some _ = some _ := hF
              cases hq
              exact en1


@[reducible] noncomputable def c_tow_ends : Con := conF F_tow_ends (fun x => match x with | (a0) => [(V.agg (eTVoyage a0))]) (fun r => V.tup [(V.v (.int .i64 (r.1))), (V.v (.int .i64 (r.2)))])
theorem h_tow_ends : Has Try.prog 71 c_tow_ends := by
  refine hasF ctx_nil mix Try.func71 rfl (by kernel_rfl) ?_
  rintro a0 r hF
  refine ⟨of_decide_eq_true rfl, ?_⟩
  refine st1 ?_
  obtain ⟨_, h, hF⟩ := e_bind hF
  (first | refine o_ia (enc := eTRun) (s := 6) h (fun _ => rfl) (by decide) ?_ | refine o_iaT (enc := eTRun) (s := 6) h (fun _ => rfl) (by decide) ?_)
  intro _
  refine st1 ?_
  obtain ⟨_, h, hF⟩ := e_bind hF
  (first | refine o_ia (enc := eTRun) (s := 6) h (fun _ => rfl) (by decide) ?_ | refine o_iaT (enc := eTRun) (s := 6) h (fun _ => rfl) (by decide) ?_)
  intro _
  refine st1 ?_
  have hq : some _ = some _ := hF
  cases hq
  exact en1


@[reducible] noncomputable def c_tow_covers : Con := conF F_tow_covers (fun x => match x with | (a0, a1, a2) => [(V.v (.int .i64 (a0))), (V.v (.int .i64 (a1))), (V.sl (recs (eI .i64) (a2)) (a2).length)]) (fun r => (V.v (.bool (r))))
theorem h_tow_covers : Has Try.prog 72 c_tow_covers := by
  refine hasF (ctx_cons h_numbers_Within ctx_nil) mix Try.func72 rfl (by kernel_rfl) ?_
  rintro ⟨a0, a1, a2⟩ r hF
  refine ⟨of_decide_eq_true rfl, ?_⟩
  refine st1 ?_
  obtain ⟨_, h, hF⟩ := e_bind hF
  (first | refine g_call h lv1 ?_ | refine g_callT h lv1 ?_)
  (conv => arg 1; whnf)
  refine st1 ?_
  have hq : some _ = some _ := hF
  cases hq
  exact en1


@[reducible] noncomputable def c_tow_onWay : Con := conF F_tow_onWay (fun x => match x with | (a0, a1) => [(V.agg (eTVoyage a0)), (V.sl (recs (eI .i64) (a1)) (a1).length)]) (fun r => (V.v (.bool (r))))
theorem h_tow_onWay : Has Try.prog 50 c_tow_onWay := by
  refine hasF (ctx_cons h_tow_covers (ctx_cons h_tow_ends ctx_nil)) mix Try.func50 rfl (by kernel_rfl) ?_
  rintro ⟨a0, a1⟩ r hF
  refine ⟨of_decide_eq_true rfl, ?_⟩
  refine st1 ?_
  obtain ⟨_, h, hF⟩ := e_bind hF
  (first | refine g_call h lv1 ?_ | refine g_callT h lv1 ?_)
  (conv => arg 1; whnf)
  refine st1 ?_
  obtain ⟨_, h, hF⟩ := e_bind hF
  (first | refine g_call h lv1 ?_ | refine g_callT h lv1 ?_)
  (conv => arg 1; whnf)
  refine st1 ?_
  have hq : some _ = some _ := hF
  cases hq
  exact en1


@[reducible] noncomputable def c_numbers_Sum : Con := conF F_numbers_Sum (fun x => match x with | (a0) => [(V.sl (recs eTBounds (a0)) (a0).length)]) (fun r => (V.agg (eTBounds r)))
theorem h_numbers_Sum : Has Try.prog 73 c_numbers_Sum := by
  refine hasF ctx_nil mix Try.func73 rfl (by kernel_rfl) ?_
  rintro a0 r hF
  refine ⟨of_decide_eq_true rfl, ?_⟩
  refine st1 ?_
  refine st_loopF (e_assoc hF) () [(0, _), (2, _)] ⟨sT, sS, by rfl, by rfl⟩ ?_
  · rintro n ⟨_, _, _⟩ _ x hx1 hF
    (conv => arg 7; whnf); (conv => arg 8; whnf); (conv => arg 9; whnf)
    refine st1 ?_
    rcases e_bif hF with ⟨hb3, hF⟩ | ⟨hb3, hF⟩ <;> (first | rw [hb3] | (conv => arg 7; rw [hb3]) | (conv => arg 9; rw [hb3]))
    · refine st1 ?_
      obtain ⟨_, h, hF⟩ := e_bind hF
      (first | refine o_ia (enc := eTBounds) (s := 2) h (fun _ => rfl) (by decide) ?_ | refine o_iaT (enc := eTBounds) (s := 2) h (fun _ => rfl) (by decide) ?_)
      intro _
      refine st1 ?_
      exact k_loopF (e_some hF) hx1 () [(0, _), (2, _)] ⟨sT, sS, by rfl, by rfl⟩
    · refine st1 ?_
      have hF := e_some hF
      have hq : some _ = some _ := hF
      cases hq
      exact en1


@[reducible] noncomputable def c_tow_until : Con := conF F_tow_until (fun x => match x with | (a0, a1) => [(V.agg (eTRun a0)), (V.v (.int .i64 (a1)))]) (fun r => (V.agg (eTBounds r)))
theorem h_tow_until : Has Try.prog 74 c_tow_until := by
  refine hasF (ctx_cons h_numbers_Up ctx_nil) mix Try.func74 rfl (by kernel_rfl) ?_
  rintro ⟨a0, a1⟩ r hF
  refine ⟨of_decide_eq_true rfl, ?_⟩
  refine st1 ?_
  obtain ⟨_, h, hF⟩ := e_bind hF
  (first | refine g_call h lv1 ?_ | refine g_callT h lv1 ?_)
  (conv => arg 1; whnf)
  refine st1 ?_
  obtain ⟨_, h, hF⟩ := e_bind hF
  (first | refine g_call h lv1 ?_ | refine g_callT h lv1 ?_)
  (conv => arg 1; whnf)
  refine st1 ?_
  have hq : some _ = some _ := hF
  cases hq
  exact en1


@[reducible] noncomputable def c_tow_arrive : Con := conF F_tow_arrive (fun x => match x with | (a0, a1) => [(V.agg (eTVoyage a0)), (V.v (.int .i64 (a1)))]) (fun r => (V.agg (eTBounds r)))
theorem h_tow_arrive : Has Try.prog 51 c_tow_arrive := by
  refine hasF (ctx_cons h_tow_until (ctx_cons h_numbers_Sum (ctx_cons h_tow_covers ctx_nil))) mix Try.func51 rfl (by kernel_rfl) ?_
  rintro ⟨a0, a1⟩ r hF
  refine ⟨of_decide_eq_true rfl, ?_⟩
  refine st1 ?_
  obtain ⟨_, h, hF⟩ := e_bind hF
  (first | refine o_ia (enc := eTRun) (s := 6) h (fun _ => rfl) (by decide) ?_ | refine o_iaT (enc := eTRun) (s := 6) h (fun _ => rfl) (by decide) ?_)
  intro _
  refine st1 ?_
  refine st_loopF (e_assoc hF) () [(1, _), (9, _)] ⟨sT, sS, by rfl, by rfl⟩ ?_
  · rintro n ⟨_, _, _, _⟩ _ x hx1 hF
    (conv => arg 7; whnf); (conv => arg 8; whnf); (conv => arg 9; whnf)
    refine st1 ?_
    rcases e_bif hF with ⟨hb7, hF⟩ | ⟨hb7, hF⟩ <;> (first | rw [hb7] | (conv => arg 7; rw [hb7]) | (conv => arg 9; rw [hb7]))
    · refine st1 ?_
      obtain ⟨_, h, hF⟩ := e_bind hF
      (first | refine o_ia (enc := eTRun) (s := 6) h (fun _ => rfl) (by decide) ?_ | refine o_iaT (enc := eTRun) (s := 6) h (fun _ => rfl) (by decide) ?_)
      intro _
      refine st1 ?_
      rcases e_bif hF with ⟨hb8, hF⟩ | ⟨hb8, hF⟩ <;> (first | rw [hb8] | (conv => arg 7; rw [hb8]) | (conv => arg 9; rw [hb8]))
      · refine st1 ?_
        have hF := e_some hF
        have hq : some _ = some _ := hF
        cases hq
        exact en1
      · refine st1 ?_
        obtain ⟨_, h, hF⟩ := e_bind hF
        (first | refine g_call h lv1 ?_ | refine g_callT h lv1 ?_)
        (conv => arg 1; whnf)
        refine st1 ?_
        rcases e_bif hF with ⟨hb9, hF⟩ | ⟨hb9, hF⟩ <;> (first | rw [hb9] | (conv => arg 7; rw [hb9]) | (conv => arg 9; rw [hb9]))
        · refine st1 ?_
          obtain ⟨_, h, hF⟩ := e_bind hF
          (first | refine g_call h lv1 ?_ | refine g_callT h lv1 ?_)
          (conv => arg 1; whnf)
          refine st1 ?_
          obtain ⟨_, h, hF⟩ := e_bind hF
          (first | refine g_call h lv1 ?_ | refine g_callT h lv1 ?_)
          (conv => arg 1; whnf)
          refine st1 ?_
          exact k_loopF (e_some hF) hx1 () [(1, _), (9, _)] ⟨sT, sS, by rfl, by rfl⟩
        · refine st1 ?_
          obtain ⟨_, h, hF⟩ := e_bind hF
          (first | refine g_call h lv1 ?_ | refine g_callT h lv1 ?_)
          (conv => arg 1; whnf)
          refine st1 ?_
          obtain ⟨_, h, hF⟩ := e_bind hF
          (first | refine g_call h lv1 ?_ | refine g_callT h lv1 ?_)
          (conv => arg 1; whnf)
          refine st1 ?_
          exact k_loopF (e_some hF) hx1 () [(1, _), (9, _)] ⟨sT, sS, by rfl, by rfl⟩
    · refine st1 ?_
      have hF := e_some hF
      have hq : some _ = some _ := hF
      cases hq
      exact en1


@[reducible] noncomputable def c_tow_Arrive : Con := conF F_tow_Arrive (fun x => match x with | (a0, a1) => [(V.agg (eTVoyage a0)), (V.v (.int .i64 (a1)))]) (fun r => V.tup [(V.agg (eTBounds r.1)), (V.v (.int .i64 (r.2)))])
theorem h_tow_Arrive : Has Try.prog 21 c_tow_Arrive := by
  refine hasF (ctx_cons h_tow_arrive (ctx_cons h_tow_onWay (ctx_cons h_tow_Check ctx_nil))) mix Try.func21 rfl (by kernel_rfl) ?_
  rintro ⟨a0, a1⟩ r hF
  refine ⟨of_decide_eq_true rfl, ?_⟩
  refine st1 ?_
  obtain ⟨_, h, hF⟩ := e_bind hF
  (first | refine g_call h lv1 ?_ | refine g_callT h lv1 ?_)
  (conv => arg 1; whnf)
  refine st1 ?_
  rcases e_bif hF with ⟨hb1, hF⟩ | ⟨hb1, hF⟩ <;> (first | rw [hb1] | (conv => arg 7; rw [hb1]) | (conv => arg 9; rw [hb1]))
  · refine st1 ?_
    have hq : some _ = some _ := hF
    cases hq
    exact en1
  · refine st1 ?_
    obtain ⟨_, h, hF⟩ := e_bind hF
    (first | refine g_call h lv1 ?_ | refine g_callT h lv1 ?_)
    (conv => arg 1; whnf)
    refine st1 ?_
    rcases e_bif hF with ⟨hb2, hF⟩ | ⟨hb2, hF⟩ <;> (first | rw [hb2] | (conv => arg 7; rw [hb2]) | (conv => arg 9; rw [hb2]))
    · refine st1 ?_
      have hq : some _ = some _ := hF
      cases hq
      exact en1
    · refine st1 ?_
      obtain ⟨_, h, hF⟩ := e_bind hF
      (first | refine g_call h lv1 ?_ | refine g_callT h lv1 ?_)
      (conv => arg 1; whnf)
      refine st1 ?_
      have hq : some _ = some _ := hF
      cases hq
      exact en1


@[reducible] noncomputable def c_tow_validNarrow : Con := conF F_tow_validNarrow (fun x => match x with | (a0) => [(V.agg (eTNarrow a0))]) (fun r => (V.v (.bool (r))))
theorem h_tow_validNarrow : Has Try.prog 75 c_tow_validNarrow := by
  refine hasF (ctx_cons h_numbers_Within ctx_nil) mix Try.func75 rfl (by kernel_rfl) ?_
  rintro a0 r hF
  refine ⟨of_decide_eq_true rfl, ?_⟩
  refine st1 ?_
  obtain ⟨_, h, hF⟩ := e_bind hF
  (first | refine g_call h lv1 ?_ | refine g_callT h lv1 ?_)
  (conv => arg 1; whnf)
  refine st1 ?_
  rcases e_bif hF with ⟨hb1, hF⟩ | ⟨hb1, hF⟩ <;> (first | rw [hb1] | (conv => arg 7; rw [hb1]) | (conv => arg 9; rw [hb1]))
  · refine st1 ?_
    rcases e_bif hF with ⟨hb2, hF⟩ | ⟨hb2, hF⟩ <;> (first | rw [hb2] | (conv => arg 7; rw [hb2]) | (conv => arg 9; rw [hb2]))
    · refine st1 ?_
      obtain ⟨_, h, hF⟩ := e_bind hF
      (first | refine g_call h lv1 ?_ | refine g_callT h lv1 ?_)
      (conv => arg 1; whnf)
      refine st1 ?_
      have hq : some _ = some _ := hF
      cases hq
      exact en1
    · refine st1 ?_
      have hq : some _ = some _ := hF
      cases hq
      exact en1
  · refine st1 ?_
    have hq : some _ = some _ := hF
    cases hq
    exact en1


@[reducible] noncomputable def c_tow_gates : Con := conF F_tow_gates (fun x => match x with | (a0, a1) => [(V.agg (eTVoyage a0)), (V.agg (eTNarrow a1))]) (fun r => V.tup [(V.v (.int .i64 (r.1))), (V.v (.int .i64 (r.2)))])
theorem h_tow_gates : Has Try.prog 76 c_tow_gates := by
  refine hasF (ctx_cons h_tow_down (ctx_cons h_numbers_Up ctx_nil)) mix Try.func76 rfl (by kernel_rfl) ?_
  rintro ⟨a0, a1⟩ r hF
  refine ⟨of_decide_eq_true rfl, ?_⟩
  refine st1 ?_
  obtain ⟨_, h, hF⟩ := e_bind hF
  (first | refine g_call h lv1 ?_ | refine g_callT h lv1 ?_)
  (conv => arg 1; whnf)
  refine st1 ?_
  obtain ⟨_, h, hF⟩ := e_bind hF
  (first | refine o_ia (enc := eTRun) (s := 6) h (fun _ => rfl) (by decide) ?_ | refine o_iaT (enc := eTRun) (s := 6) h (fun _ => rfl) (by decide) ?_)
  intro _
  refine st1 ?_
  obtain ⟨_, h, hF⟩ := e_bind hF
  (first | refine g_call h lv1 ?_ | refine g_callT h lv1 ?_)
  (conv => arg 1; whnf)
  refine st1 ?_
  rcases e_bif hF with ⟨hb1, hF⟩ | ⟨hb1, hF⟩ <;> (first | rw [hb1] | (conv => arg 7; rw [hb1]) | (conv => arg 9; rw [hb1]))
  · refine st1 ?_
    have hq : some _ = some _ := hF
    cases hq
    exact en1
  · refine st1 ?_
    have hq : some _ = some _ := hF
    cases hq
    exact en1


@[reducible] noncomputable def c_tow_near : Con := conF F_tow_near (fun x => match x with | (a0, a1, a2) => [(V.agg (eTVoyage a0)), (V.v (.int .i64 (a1))), (V.v (.int .i64 (a2)))]) (fun r => (V.v (.bool (r))))
theorem h_tow_near : Has Try.prog 77 c_tow_near := by
  refine hasF (ctx_cons h_tow_ends ctx_nil) mix Try.func77 rfl (by kernel_rfl) ?_
  rintro ⟨a0, a1, a2⟩ r hF
  refine ⟨of_decide_eq_true rfl, ?_⟩
  refine st1 ?_
  obtain ⟨_, h, hF⟩ := e_bind hF
  (first | refine g_call h lv1 ?_ | refine g_callT h lv1 ?_)
  (conv => arg 1; whnf)
  refine st1 ?_
  rcases e_bif hF with ⟨hb1, hF⟩ | ⟨hb1, hF⟩ <;> (first | rw [hb1] | (conv => arg 7; rw [hb1]) | (conv => arg 9; rw [hb1]))
  · refine st1 ?_
    have hq : some _ = some _ := hF
    cases hq
    exact en1
  · refine st1 ?_
    have hq : some _ = some _ := hF
    cases hq
    exact en1


end Go.Ev
