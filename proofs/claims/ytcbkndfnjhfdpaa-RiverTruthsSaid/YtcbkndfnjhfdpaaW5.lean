/- A part of the proof of RiverFlows. -/
import Derived.Test.YtcbkndfnjhfdpaaW4
/- The functions do what is said. -/
set_option linter.unusedVariables false
set_option linter.unusedSimpArgs false
namespace Go.Ev
open Go.Proofs
set_option maxHeartbeats 8000000
set_option maxRecDepth 100000
@[reducible] noncomputable def c_numbers_Every_int (C : FuncId → Option Con) : Con := conK F_numbers_Every_int (fun x => match x with | (a0, a1, g, caps) => [(V.sl (recs (eI .i64) (a0)) (a0).length), (V.fn g caps)]) (fun x => match x with | (a0, a1, g, caps) => Callable (ext C []) g caps (fun x => match x with | (q0) => [(V.v (.int .i64 (q0)))]) (fun r => (V.v (.bool (r)))) a1) (fun r => (V.v (.bool (r))))
theorem h_numbers_Every_int {C : FuncId → Option Con} (hC : CtxOK Try.prog C) : Has Try.prog 72 (c_numbers_Every_int C) := by
  refine hasK (ext_nil hC) mix Try.func72 rfl (by kernel_rfl) ?_
  rintro ⟨a0, a1, g, caps⟩ r hcl hF
  obtain ⟨hcaps, c, hc, hce, hcf, hcall⟩ := id hcl
  refine ⟨of_decide_eq_true rfl, ?_⟩
  refine st1 ?_
  refine st_loopF (e_assoc hF) () [] ⟨sT, sS, by rfl, by rfl⟩ ?_
  · as_aux_lemma =>
    rintro n _ _ x hx1 hF
    (conv => arg 7; whnf); (conv => arg 8; whnf); (conv => arg 9; whnf)
    refine st1 ?_
    rcases e_bif hF with ⟨hb5, hF⟩ | ⟨hb5, hF⟩ <;> (first | rw [hb5] | (conv => arg 7; rw [hb5]) | (conv => arg 9; rw [hb5]))
    · refine st1 ?_
      obtain ⟨_, h, hF⟩ := e_bind hF
      (first | refine o_ia (enc := (eI .i64)) (s := 1) h (fun _ => rfl) (by decide) ?_ | refine o_iaT (enc := (eI .i64)) (s := 1) h (fun _ => rfl) (by decide) ?_)
      intro _
      refine st1 ?_
      obtain ⟨_, h, hF⟩ := e_bind hF
      rw [hc]
      (conv => arg 1; whnf)
      rw [hce, hcf]
      (conv => arg 1; whnf)
      (first | refine go_map hcaps rfl ?_ | refine goT_map hcaps rfl ?_)
      (conv => arg 1; whnf)
      obtain ⟨z, hz1, hz2, hz3⟩ := hcall _ _ h
      (first | refine go_exi z ⟨levs_eq hz1.symm, hz2⟩ ?_ | refine goT_exi z ⟨levs_eq hz1.symm, hz2⟩ ?_)
      rw [hz3]
      (conv => arg 1; whnf)
      refine st1 ?_
      rcases e_bif hF with ⟨hb6, hF⟩ | ⟨hb6, hF⟩ <;> (first | rw [hb6] | (conv => arg 7; rw [hb6]) | (conv => arg 9; rw [hb6]))
      · refine st1 ?_
        have hF := e_some hF
        have hq : some _ = some _ := hF
        cases hq
        exact en1
      · refine st1 ?_
        exact k_loopF (e_some hF) hx1 () [] ⟨sT, sS, by rfl, by rfl⟩
    · refine st1 ?_
      have hF := e_some hF
      have hq : some _ = some _ := hF
      cases hq
      exact en1


@[reducible] noncomputable def c_numbers_Within_1 : Con := conF F_numbers_Within_1 (fun x => match x with | (a0, c0, c1) => [(V.v (.int .i64 (a0))), (V.fptr [(V.v (.int .i64 (c0)))]), (V.fptr [(V.v (.int .i64 (c1)))])]) (fun r => (V.v (.bool (r))))
theorem h_numbers_Within_1 : Has Try.prog 73 c_numbers_Within_1 := by
  refine hasF ctx_nil mix Try.func73 rfl (by kernel_rfl) ?_
  rintro ⟨a0, c0, c1⟩ r hF
  refine ⟨of_decide_eq_true rfl, ?_⟩
  refine st1 ?_
  rcases e_bif hF with ⟨hb1, hF⟩ | ⟨hb1, hF⟩ <;> (first | rw [hb1] | (conv => arg 7; rw [hb1]) | (conv => arg 9; rw [hb1]))
  · refine st1 ?_
    have hq : some _ = some _ := hF
    cases hq
    exact en1
  · refine st1 ?_
    have hq : some _ = some _ := hF
    cases hq
    exact en1


@[reducible] noncomputable def c_numbers_Within : Con := conF F_numbers_Within (fun x => match x with | (a0, a1, a2) => [(V.v (.int .i64 (a0))), (V.v (.int .i64 (a1))), (V.sl (recs (eI .i64) (a2)) (a2).length)]) (fun r => (V.v (.bool (r))))
theorem h_numbers_Within : Has Try.prog 48 c_numbers_Within := by
  refine hasF (ctx_cons (h_numbers_Every_int (ctx_cons h_numbers_Within_1 ctx_nil)) ctx_nil) mix Try.func48 rfl (by kernel_rfl) ?_
  rintro ⟨a0, a1, a2⟩ r hF
  refine ⟨of_decide_eq_true rfl, ?_⟩
  refine st1 ?_
  obtain ⟨_, h, hF⟩ := e_bind hF
  (first | refine g_hcall h lv1 (callable_conF rfl rfl (fun _ => rfl)) ?_ | refine g_hcallT h lv1 (callable_conF rfl rfl (fun _ => rfl)) ?_)
  (conv => arg 1; whnf)
  refine st1 ?_
  have hq : some _ = some _ := hF
  cases hq
  exact en1


@[reducible] noncomputable def c_numbers_Valid : Con := conF F_numbers_Valid (fun x => match x with | (a0, a1, a2) => [(V.agg (eTBounds a0)), (V.v (.int .i64 (a1))), (V.v (.int .i64 (a2)))]) (fun r => (V.v (.bool (r))))
theorem h_numbers_Valid : Has Try.prog 41 c_numbers_Valid := by
  refine hasF (ctx_cons h_numbers_Within ctx_nil) mix Try.func41 rfl (by kernel_rfl) ?_
  rintro ⟨a0, a1, a2⟩ r hF
  refine ⟨of_decide_eq_true rfl, ?_⟩
  refine st1 ?_
  rcases e_bif hF with ⟨hb1, hF⟩ | ⟨hb1, hF⟩ <;> (first | rw [hb1] | (conv => arg 7; rw [hb1]) | (conv => arg 9; rw [hb1]))
  · refine st1 ?_
    obtain ⟨_, h, hF⟩ := e_bind hF
    (first | refine g_call h lv1 ?_ | refine g_callT h lv1 ?_)
    (conv => arg 1; whnf)
    refine st1 ?_
    have hq : some _ = some _ := hF
    cases hq
    exact en1
  · refine st1 ?_
    have hq : some _ = some _ := hF
    cases hq
    exact en1


@[reducible] noncomputable def c_river_validCurve_1 : Con := conF F_river_validCurve_1 (fun x => match x with | (a0, a1) => [(V.agg (eTRateRow a0)), (V.agg (eTRateRow a1))]) (fun r => (V.v (.bool (r))))
theorem h_river_validCurve_1 : Has Try.prog 86 c_river_validCurve_1 := by
  refine hasF ctx_nil mix Try.func86 rfl (by kernel_rfl) ?_
  rintro ⟨a0, a1⟩ r hF
  refine ⟨of_decide_eq_true rfl, ?_⟩
  refine st1 ?_
  rcases e_bif hF with ⟨hb1, hF⟩ | ⟨hb1, hF⟩ <;> (first | rw [hb1] | (conv => arg 7; rw [hb1]) | (conv => arg 9; rw [hb1]))
  · refine st1 ?_
    have hq : some _ = some _ := hF
    cases hq
    exact en1
  · refine st1 ?_
    have hq : some _ = some _ := hF
    cases hq
    exact en1


@[reducible] noncomputable def c_numbers_Every_RateRow (C : FuncId → Option Con) : Con := conK F_numbers_Every_RateRow (fun x => match x with | (a0, a1, g, caps) => [(V.sl (recs eTRateRow (a0)) (a0).length), (V.fn g caps)]) (fun x => match x with | (a0, a1, g, caps) => Callable (ext C []) g caps (fun x => match x with | (q0) => [(V.agg (eTRateRow q0))]) (fun r => (V.v (.bool (r)))) a1) (fun r => (V.v (.bool (r))))
theorem h_numbers_Every_RateRow {C : FuncId → Option Con} (hC : CtxOK Try.prog C) : Has Try.prog 87 (c_numbers_Every_RateRow C) := by
  refine hasK (ext_nil hC) mix Try.func87 rfl (by kernel_rfl) ?_
  rintro ⟨a0, a1, g, caps⟩ r hcl hF
  obtain ⟨hcaps, c, hc, hce, hcf, hcall⟩ := id hcl
  refine ⟨of_decide_eq_true rfl, ?_⟩
  refine st1 ?_
  refine st_loopF (e_assoc hF) () [] ⟨sT, sS, by rfl, by rfl⟩ ?_
  · as_aux_lemma =>
    rintro n _ _ x hx1 hF
    (conv => arg 7; whnf); (conv => arg 8; whnf); (conv => arg 9; whnf)
    refine st1 ?_
    rcases e_bif hF with ⟨hb5, hF⟩ | ⟨hb5, hF⟩ <;> (first | rw [hb5] | (conv => arg 7; rw [hb5]) | (conv => arg 9; rw [hb5]))
    · refine st1 ?_
      obtain ⟨_, h, hF⟩ := e_bind hF
      (first | refine o_ia (enc := eTRateRow) (s := 2) h (fun _ => rfl) (by decide) ?_ | refine o_iaT (enc := eTRateRow) (s := 2) h (fun _ => rfl) (by decide) ?_)
      intro _
      refine st1 ?_
      obtain ⟨_, h, hF⟩ := e_bind hF
      rw [hc]
      (conv => arg 1; whnf)
      rw [hce, hcf]
      (conv => arg 1; whnf)
      (first | refine go_map hcaps rfl ?_ | refine goT_map hcaps rfl ?_)
      (conv => arg 1; whnf)
      obtain ⟨z, hz1, hz2, hz3⟩ := hcall _ _ h
      (first | refine go_exi z ⟨levs_eq hz1.symm, hz2⟩ ?_ | refine goT_exi z ⟨levs_eq hz1.symm, hz2⟩ ?_)
      rw [hz3]
      (conv => arg 1; whnf)
      refine st1 ?_
      rcases e_bif hF with ⟨hb6, hF⟩ | ⟨hb6, hF⟩ <;> (first | rw [hb6] | (conv => arg 7; rw [hb6]) | (conv => arg 9; rw [hb6]))
      · refine st1 ?_
        have hF := e_some hF
        have hq : some _ = some _ := hF
        cases hq
        exact en1
      · refine st1 ?_
        exact k_loopF (e_some hF) hx1 () [] ⟨sT, sS, by rfl, by rfl⟩
    · refine st1 ?_
      have hF := e_some hF
      have hq : some _ = some _ := hF
      cases hq
      exact en1


@[reducible] noncomputable def c_river_validCurve_2 : Con := conF F_river_validCurve_2 (fun x => match x with | (a0) => [(V.agg (eTRateRow a0))]) (fun r => (V.v (.bool (r))))
theorem h_river_validCurve_2 : Has Try.prog 88 c_river_validCurve_2 := by
  refine hasF (ctx_cons h_numbers_Within ctx_nil) mix Try.func88 rfl (by kernel_rfl) ?_
  rintro a0 r hF
  refine ⟨of_decide_eq_true rfl, ?_⟩
  refine st1 ?_
  obtain ⟨_, h, hF⟩ := e_bind hF
  (first | refine g_call h lv1 ?_ | refine g_callT h lv1 ?_)
  (conv => arg 1; whnf)
  refine st1 ?_
  rcases e_bif hF with ⟨hb1, hF⟩ | ⟨hb1, hF⟩ <;> (first | rw [hb1] | (conv => arg 7; rw [hb1]) | (conv => arg 9; rw [hb1]))
  · refine st1 ?_
    obtain ⟨_, h, hF⟩ := e_bind hF
    (first | refine g_call h lv1 ?_ | refine g_callT h lv1 ?_)
    (conv => arg 1; whnf)
    refine st1 ?_
    have hq : some _ = some _ := hF
    cases hq
    exact en1
  · refine st1 ?_
    have hq : some _ = some _ := hF
    cases hq
    exact en1


@[reducible] noncomputable def c_river_validCurve : Con := conF F_river_validCurve (fun x => match x with | (a0) => [(V.sl (recs eTRateRow (a0)) (a0).length)]) (fun r => (V.v (.bool (r))))
theorem h_river_validCurve : Has Try.prog 70 c_river_validCurve := by
  refine hasF (ctx_cons (h_numbers_Every_RateRow (ctx_cons h_river_validCurve_2 ctx_nil)) (ctx_cons h_river_validCurve_1 (ctx_cons h_numbers_Within ctx_nil))) mix Try.func70 rfl (by kernel_rfl) ?_
  rintro a0 r hF
  refine ⟨of_decide_eq_true rfl, ?_⟩
  refine st1 ?_
  obtain ⟨_, h, hF⟩ := e_bind hF
  (first | refine g_call h lv1 ?_ | refine g_callT h lv1 ?_)
  (conv => arg 1; whnf)
  refine st1 ?_
  rcases e_bif hF with ⟨hb1, hF⟩ | ⟨hb1, hF⟩ <;> (first | rw [hb1] | (conv => arg 7; rw [hb1]) | (conv => arg 9; rw [hb1]))
  · refine st1 ?_
    have hq : some _ = some _ := hF
    cases hq
    exact en1
  · refine st1 ?_
    refine st_loopF (e_assoc hF) () [] ⟨sT, sS, by rfl, by rfl⟩ ?_
    · as_aux_lemma =>
      rintro n _ _ x hx1 hF
      (conv => arg 7; whnf); (conv => arg 8; whnf); (conv => arg 9; whnf)
      refine st1 ?_
      rcases e_bif hF with ⟨hb6, hF⟩ | ⟨hb6, hF⟩ <;> (first | rw [hb6] | (conv => arg 7; rw [hb6]) | (conv => arg 9; rw [hb6]))
      · refine st1 ?_
        obtain ⟨_, h, hF⟩ := e_bind hF
        (first | refine o_ia (enc := eTRateRow) (s := 2) h (fun _ => rfl) (by decide) ?_ | refine o_iaT (enc := eTRateRow) (s := 2) h (fun _ => rfl) (by decide) ?_)
        intro _
        refine st1 ?_
        obtain ⟨_, h, hF⟩ := e_bind hF
        (first | refine o_ia (enc := eTRateRow) (s := 2) h (fun _ => rfl) (by decide) ?_ | refine o_iaT (enc := eTRateRow) (s := 2) h (fun _ => rfl) (by decide) ?_)
        intro _
        refine st1 ?_
        obtain ⟨_, h, hF⟩ := e_bind hF
        (first | refine g_call h lv1 ?_ | refine g_callT h lv1 ?_)
        (conv => arg 1; whnf)
        refine st1 ?_
        rcases e_bif hF with ⟨hb7, hF⟩ | ⟨hb7, hF⟩ <;> (first | rw [hb7] | (conv => arg 7; rw [hb7]) | (conv => arg 9; rw [hb7]))
        · refine st1 ?_
          have hF := e_some hF
          have hq : some _ = some _ := hF
          cases hq
          exact en1
        · refine st1 ?_
          exact k_loopF (e_some hF) hx1 () [] ⟨sT, sS, by rfl, by rfl⟩
      · refine st1 ?_
        have hF := e_some hF
        obtain ⟨_, h, hF⟩ := e_bind hF
        (first | refine g_hcall h lv1 (callable_conF rfl rfl (fun _ => rfl)) ?_ | refine g_hcallT h lv1 (callable_conF rfl rfl (fun _ => rfl)) ?_)
        (conv => arg 1; whnf)
        refine st1 ?_
        have hq : some _ = some _ := hF
        cases hq
        exact en1


@[reducible] noncomputable def c_river_validReach : Con := conF F_river_validReach (fun x => match x with | (a0) => [(V.agg (eTReach a0))]) (fun r => (V.v (.bool (r))))
theorem h_river_validReach : Has Try.prog 40 c_river_validReach := by
  refine hasF (ctx_cons h_river_validCurve (ctx_cons h_numbers_Within (ctx_cons h_numbers_Valid ctx_nil))) mix Try.func40 rfl (by kernel_rfl) ?_
  rintro a0 r hF
  refine ⟨of_decide_eq_true rfl, ?_⟩
  refine st1 ?_
  obtain ⟨_, h, hF⟩ := e_bind hF
  (first | refine g_call h lv1 ?_ | refine g_callT h lv1 ?_)
  (conv => arg 1; whnf)
  refine st1 ?_
  rcases e_bif hF with ⟨hb1, hF⟩ | ⟨hb1, hF⟩ <;> (first | rw [hb1] | (conv => arg 7; rw [hb1]) | (conv => arg 9; rw [hb1]))
  · refine st1 ?_
    obtain ⟨_, h, hF⟩ := e_bind hF
    (first | refine g_call h lv1 ?_ | refine g_callT h lv1 ?_)
    (conv => arg 1; whnf)
    refine st1 ?_
    rcases e_bif hF with ⟨hb2, hF⟩ | ⟨hb2, hF⟩ <;> (first | rw [hb2] | (conv => arg 7; rw [hb2]) | (conv => arg 9; rw [hb2]))
    · refine st1 ?_
      obtain ⟨_, h, hF⟩ := e_bind hF
      (first | refine g_call h lv1 ?_ | refine g_callT h lv1 ?_)
      (conv => arg 1; whnf)
      refine st1 ?_
      rcases e_bif hF with ⟨hb3, hF⟩ | ⟨hb3, hF⟩ <;> (first | rw [hb3] | (conv => arg 7; rw [hb3]) | (conv => arg 9; rw [hb3]))
      · refine st1 ?_
        obtain ⟨_, h, hF⟩ := e_bind hF
        (first | refine g_call h lv1 ?_ | refine g_callT h lv1 ?_)
        (conv => arg 1; whnf)
        refine st1 ?_
        rcases e_bif hF with ⟨hb4, hF⟩ | ⟨hb4, hF⟩ <;> (first | rw [hb4] | (conv => arg 7; rw [hb4]) | (conv => arg 9; rw [hb4]))
        · refine st1 ?_
          obtain ⟨_, h, hF⟩ := e_bind hF
          (first | refine g_call h lv1 ?_ | refine g_callT h lv1 ?_)
          (conv => arg 1; whnf)
          refine st1 ?_
          rcases e_bif hF with ⟨hb5, hF⟩ | ⟨hb5, hF⟩ <;> (first | rw [hb5] | (conv => arg 7; rw [hb5]) | (conv => arg 9; rw [hb5]))
          · refine st1 ?_
            obtain ⟨_, h, hF⟩ := e_bind hF
            (first | refine g_call h lv1 ?_ | refine g_callT h lv1 ?_)
            (conv => arg 1; whnf)
            refine st1 ?_
            have hq : some _ = some _ := hF
            cases hq
            exact en1
          · refine st1 ?_
            have hq : some _ = some _ := hF
            cases hq
            exact en1
        · refine st1 ?_
          have hq : some _ = some _ := hF
          cases hq
          exact en1
      · refine st1 ?_
        have hq : some _ = some _ := hF
        cases hq
        exact en1
    · refine st1 ?_
      have hq : some _ = some _ := hF
      cases hq
      exact en1
  · refine st1 ?_
    have hq : some _ = some _ := hF
    cases hq
    exact en1


@[reducible] noncomputable def c_numbers_Every_Reach (C : FuncId → Option Con) : Con := conK F_numbers_Every_Reach (fun x => match x with | (a0, a1, g, caps) => [(V.sl (recs eTReach (a0)) (a0).length), (V.fn g caps)]) (fun x => match x with | (a0, a1, g, caps) => Callable (ext C []) g caps (fun x => match x with | (q0) => [(V.agg (eTReach q0))]) (fun r => (V.v (.bool (r)))) a1) (fun r => (V.v (.bool (r))))
theorem h_numbers_Every_Reach {C : FuncId → Option Con} (hC : CtxOK Try.prog C) : Has Try.prog 66 (c_numbers_Every_Reach C) := by
  refine hasK (ext_nil hC) mix Try.func66 rfl (by kernel_rfl) ?_
  rintro ⟨a0, a1, g, caps⟩ r hcl hF
  obtain ⟨hcaps, c, hc, hce, hcf, hcall⟩ := id hcl
  refine ⟨of_decide_eq_true rfl, ?_⟩
  refine st1 ?_
  refine st_loopF (e_assoc hF) () [] ⟨sT, sS, by rfl, by rfl⟩ ?_
  · as_aux_lemma =>
    rintro n _ _ x hx1 hF
    (conv => arg 7; whnf); (conv => arg 8; whnf); (conv => arg 9; whnf)
    refine st1 ?_
    rcases e_bif hF with ⟨hb5, hF⟩ | ⟨hb5, hF⟩ <;> (first | rw [hb5] | (conv => arg 7; rw [hb5]) | (conv => arg 9; rw [hb5]))
    · refine st1 ?_
      obtain ⟨_, h, hF⟩ := e_bind hF
      (first | refine o_ia (enc := eTReach) (s := 9) h (fun _ => rfl) (by decide) ?_ | refine o_iaT (enc := eTReach) (s := 9) h (fun _ => rfl) (by decide) ?_)
      intro _
      refine st1 ?_
      obtain ⟨_, h, hF⟩ := e_bind hF
      rw [hc]
      (conv => arg 1; whnf)
      rw [hce, hcf]
      (conv => arg 1; whnf)
      (first | refine go_map hcaps rfl ?_ | refine goT_map hcaps rfl ?_)
      (conv => arg 1; whnf)
      obtain ⟨z, hz1, hz2, hz3⟩ := hcall _ _ h
      (first | refine go_exi z ⟨levs_eq hz1.symm, hz2⟩ ?_ | refine goT_exi z ⟨levs_eq hz1.symm, hz2⟩ ?_)
      rw [hz3]
      (conv => arg 1; whnf)
      refine st1 ?_
      rcases e_bif hF with ⟨hb6, hF⟩ | ⟨hb6, hF⟩ <;> (first | rw [hb6] | (conv => arg 7; rw [hb6]) | (conv => arg 9; rw [hb6]))
      · refine st1 ?_
        have hF := e_some hF
        have hq : some _ = some _ := hF
        cases hq
        exact en1
      · refine st1 ?_
        exact k_loopF (e_some hF) hx1 () [] ⟨sT, sS, by rfl, by rfl⟩
    · refine st1 ?_
      have hF := e_some hF
      have hq : some _ = some _ := hF
      cases hq
      exact en1


@[reducible] noncomputable def c_numbers_Every_Shoal (C : FuncId → Option Con) : Con := conK F_numbers_Every_Shoal (fun x => match x with | (a0, a1, g, caps) => [(V.sl (recs eTShoal (a0)) (a0).length), (V.fn g caps)]) (fun x => match x with | (a0, a1, g, caps) => Callable (ext C []) g caps (fun x => match x with | (q0) => [(V.agg (eTShoal q0))]) (fun r => (V.v (.bool (r)))) a1) (fun r => (V.v (.bool (r))))
theorem h_numbers_Every_Shoal {C : FuncId → Option Con} (hC : CtxOK Try.prog C) : Has Try.prog 67 (c_numbers_Every_Shoal C) := by
  refine hasK (ext_nil hC) mix Try.func67 rfl (by kernel_rfl) ?_
  rintro ⟨a0, a1, g, caps⟩ r hcl hF
  obtain ⟨hcaps, c, hc, hce, hcf, hcall⟩ := id hcl
  refine ⟨of_decide_eq_true rfl, ?_⟩
  refine st1 ?_
  refine st_loopF (e_assoc hF) () [] ⟨sT, sS, by rfl, by rfl⟩ ?_
  · as_aux_lemma =>
    rintro n _ _ x hx1 hF
    (conv => arg 7; whnf); (conv => arg 8; whnf); (conv => arg 9; whnf)
    refine st1 ?_
    rcases e_bif hF with ⟨hb5, hF⟩ | ⟨hb5, hF⟩ <;> (first | rw [hb5] | (conv => arg 7; rw [hb5]) | (conv => arg 9; rw [hb5]))
    · refine st1 ?_
      obtain ⟨_, h, hF⟩ := e_bind hF
      (first | refine o_ia (enc := eTShoal) (s := 6) h (fun _ => rfl) (by decide) ?_ | refine o_iaT (enc := eTShoal) (s := 6) h (fun _ => rfl) (by decide) ?_)
      intro _
      refine st1 ?_
      obtain ⟨_, h, hF⟩ := e_bind hF
      rw [hc]
      (conv => arg 1; whnf)
      rw [hce, hcf]
      (conv => arg 1; whnf)
      (first | refine go_map hcaps rfl ?_ | refine goT_map hcaps rfl ?_)
      (conv => arg 1; whnf)
      obtain ⟨z, hz1, hz2, hz3⟩ := hcall _ _ h
      (first | refine go_exi z ⟨levs_eq hz1.symm, hz2⟩ ?_ | refine goT_exi z ⟨levs_eq hz1.symm, hz2⟩ ?_)
      rw [hz3]
      (conv => arg 1; whnf)
      refine st1 ?_
      rcases e_bif hF with ⟨hb6, hF⟩ | ⟨hb6, hF⟩ <;> (first | rw [hb6] | (conv => arg 7; rw [hb6]) | (conv => arg 9; rw [hb6]))
      · refine st1 ?_
        have hF := e_some hF
        have hq : some _ = some _ := hF
        cases hq
        exact en1
      · refine st1 ?_
        exact k_loopF (e_some hF) hx1 () [] ⟨sT, sS, by rfl, by rfl⟩
    · refine st1 ?_
      have hF := e_some hF
      have hq : some _ = some _ := hF
      cases hq
      exact en1


@[reducible] noncomputable def c_river_find : Con := conF F_river_find (fun x => match x with | (a0, a1) => [(V.agg (eTRiver a0)), (V.v (.int .i64 (a1)))]) (fun r => V.tup [(V.agg (eTriver_site r.1)), (V.v (.bool (r.2)))])
theorem h_river_find : Has Try.prog 47 c_river_find := by
  refine hasF ctx_nil mix Try.func47 rfl (by kernel_rfl) ?_
  rintro ⟨a0, a1⟩ r hF
  refine ⟨of_decide_eq_true rfl, ?_⟩
  refine st1 ?_
  refine st_loopF (e_assoc hF) () [(0, _), (1, _)] ⟨sT, sS, by rfl, by rfl⟩ ?_
  · as_aux_lemma =>
    rintro n ⟨_, _⟩ _ x hx1 hF
    (conv => arg 7; whnf); (conv => arg 8; whnf); (conv => arg 9; whnf)
    refine st1 ?_
    rcases e_bif hF with ⟨hb7, hF⟩ | ⟨hb7, hF⟩ <;> (first | rw [hb7] | (conv => arg 7; rw [hb7]) | (conv => arg 9; rw [hb7]))
    · refine st1 ?_
      obtain ⟨_, h, hF⟩ := e_bind hF
      (first | refine o_ia (enc := eTReach) (s := 9) h (fun _ => rfl) (by decide) ?_ | refine o_iaT (enc := eTReach) (s := 9) h (fun _ => rfl) (by decide) ?_)
      intro _
      refine st1 ?_
      rcases e_bif hF with ⟨hb8, hF⟩ | ⟨hb8, hF⟩ <;> (first | rw [hb8] | (conv => arg 7; rw [hb8]) | (conv => arg 9; rw [hb8]))
      · refine st1 ?_
        rcases e_bif hF with ⟨hb9, hF⟩ | ⟨hb9, hF⟩ <;> (first | rw [hb9] | (conv => arg 7; rw [hb9]) | (conv => arg 9; rw [hb9]))
        · refine st1 ?_
          have hF := e_some hF
          have hq : some _ = some _ := hF
          cases hq
          exact en1
        · refine st1 ?_
          exact k_loopF (e_some hF) hx1 () [(0, _), (1, _)] ⟨sT, sS, by rfl, by rfl⟩
      · refine st1 ?_
        exact k_loopF (e_some hF) hx1 () [(0, _), (1, _)] ⟨sT, sS, by rfl, by rfl⟩
    · refine st1 ?_
      have hF := e_some hF
      have hq : some _ = some _ := hF
      cases hq
      exact en1


@[reducible] noncomputable def c_river_validShoal : Con := conF F_river_validShoal (fun x => match x with | (a0, a1) => [(V.agg (eTRiver a0)), (V.agg (eTShoal a1))]) (fun r => (V.v (.bool (r))))
theorem h_river_validShoal : Has Try.prog 69 c_river_validShoal := by
  refine hasF (ctx_cons h_numbers_Within (ctx_cons h_river_find (ctx_cons h_numbers_Valid ctx_nil))) mix Try.func69 rfl (by kernel_rfl) ?_
  rintro ⟨a0, a1⟩ r hF
  refine ⟨of_decide_eq_true rfl, ?_⟩
  refine st1 ?_
  obtain ⟨_, h, hF⟩ := e_bind hF
  (first | refine g_call h lv1 ?_ | refine g_callT h lv1 ?_)
  (conv => arg 1; whnf)
  refine st1 ?_
  rcases e_bif hF with ⟨hb1, hF⟩ | ⟨hb1, hF⟩ <;> (first | rw [hb1] | (conv => arg 7; rw [hb1]) | (conv => arg 9; rw [hb1]))
  · refine st1 ?_
    obtain ⟨_, h, hF⟩ := e_bind hF
    (first | refine g_call h lv1 ?_ | refine g_callT h lv1 ?_)
    (conv => arg 1; whnf)
    refine st1 ?_
    rcases e_bif hF with ⟨hb2, hF⟩ | ⟨hb2, hF⟩ <;> (first | rw [hb2] | (conv => arg 7; rw [hb2]) | (conv => arg 9; rw [hb2]))
    · refine st1 ?_
      obtain ⟨_, h, hF⟩ := e_bind hF
      (first | refine g_call h lv1 ?_ | refine g_callT h lv1 ?_)
      (conv => arg 1; whnf)
      refine st1 ?_
      rcases e_bif hF with ⟨hb3, hF⟩ | ⟨hb3, hF⟩ <;> (first | rw [hb3] | (conv => arg 7; rw [hb3]) | (conv => arg 9; rw [hb3]))
      · refine st1 ?_
        obtain ⟨_, h, hF⟩ := e_bind hF
        (first | refine g_call h lv1 ?_ | refine g_callT h lv1 ?_)
        (conv => arg 1; whnf)
        refine st1 ?_
        have hq : some _ = some _ := hF
        cases hq
        exact en1
      · refine st1 ?_
        have hq : some _ = some _ := hF
        cases hq
        exact en1
    · refine st1 ?_
      have hq : some _ = some _ := hF
      cases hq
      exact en1
  · refine st1 ?_
    have hq : some _ = some _ := hF
    cases hq
    exact en1


@[reducible] noncomputable def c_river_Check_1 : Con := conF F_river_Check_1 (fun x => match x with | (a0, c0) => [(V.agg (eTShoal a0)), (V.fptr [(V.sl (recs eTReach (c0.Reaches)) (c0.Reaches).length), (V.sl (recs eTShoal (c0.Shoals)) (c0.Shoals).length)])]) (fun r => (V.v (.bool (r))))
theorem h_river_Check_1 : Has Try.prog 68 c_river_Check_1 := by
  refine hasF (ctx_cons h_river_validShoal ctx_nil) mix Try.func68 rfl (by kernel_rfl) ?_
  rintro ⟨a0, c0⟩ r hF
  refine ⟨of_decide_eq_true rfl, ?_⟩
  refine st1 ?_
  obtain ⟨_, h, hF⟩ := e_bind hF
  (first | refine g_call h lv1 ?_ | refine g_callT h lv1 ?_)
  (conv => arg 1; whnf)
  refine st1 ?_
  have hq : some _ = some _ := hF
  cases hq
  exact en1


@[reducible] noncomputable def c_river_Check : Con := conF F_river_Check (fun x => match x with | (a0) => [(V.agg (eTRiver a0))]) (fun r => (V.v (.int .i64 (r))))
theorem h_river_Check : Has Try.prog 39 c_river_Check := by
  refine hasF (ctx_cons (h_numbers_Every_Shoal (ctx_cons h_river_Check_1 ctx_nil)) (ctx_cons (h_numbers_Every_Reach (ctx_cons h_river_validReach ctx_nil)) (ctx_cons h_numbers_Within ctx_nil))) mix Try.func39 rfl (by kernel_rfl) ?_
  rintro a0 r hF
  refine ⟨of_decide_eq_true rfl, ?_⟩
  refine st1 ?_
  obtain ⟨_, h, hF⟩ := e_bind hF
  (first | refine g_call h lv1 ?_ | refine g_callT h lv1 ?_)
  (conv => arg 1; whnf)
  refine st1 ?_
  rcases e_bif hF with ⟨hb1, hF⟩ | ⟨hb1, hF⟩ <;> (first | rw [hb1] | (conv => arg 7; rw [hb1]) | (conv => arg 9; rw [hb1]))
  · refine st1 ?_
    have hq : some _ = some _ := hF
    cases hq
    exact en1
  · refine st1 ?_
    obtain ⟨_, h, hF⟩ := e_bind hF
    (first | refine g_hcall h lv1 (callable_conF rfl rfl (fun _ => rfl)) ?_ | refine g_hcallT h lv1 (callable_conF rfl rfl (fun _ => rfl)) ?_)
    (conv => arg 1; whnf)
    refine st1 ?_
    rcases e_bif hF with ⟨hb2, hF⟩ | ⟨hb2, hF⟩ <;> (first | rw [hb2] | (conv => arg 7; rw [hb2]) | (conv => arg 9; rw [hb2]))
    · refine st1 ?_
      have hq : some _ = some _ := hF
      cases hq
      exact en1
    · refine st1 ?_
      rcases e_bif hF with ⟨hb3, hF⟩ | ⟨hb3, hF⟩ <;> (first | rw [hb3] | (conv => arg 7; rw [hb3]) | (conv => arg 9; rw [hb3]))
      · refine st1 ?_
        have hq : some _ = some _ := hF
        cases hq
        exact en1
      · refine st1 ?_
        obtain ⟨_, h, hF⟩ := e_bind hF
        (first | refine g_hcall h lv1 (callable_conF rfl rfl (fun _ => rfl)) ?_ | refine g_hcallT h lv1 (callable_conF rfl rfl (fun _ => rfl)) ?_)
        (conv => arg 1; whnf)
        refine st1 ?_
        rcases e_bif hF with ⟨hb4, hF⟩ | ⟨hb4, hF⟩ <;> (first | rw [hb4] | (conv => arg 7; rw [hb4]) | (conv => arg 9; rw [hb4]))
        · refine st1 ?_
          have hq : some _ = some _ := hF
          cases hq
          exact en1
        · refine st1 ?_
          have hq : some _ = some _ := hF
          cases hq
          exact en1


@[reducible] noncomputable def c_numbers_Sum : Con := conF F_numbers_Sum (fun x => match x with | (a0) => [(V.sl (recs eTBounds (a0)) (a0).length)]) (fun r => (V.agg (eTBounds r)))
theorem h_numbers_Sum : Has Try.prog 56 c_numbers_Sum := by
  refine hasF ctx_nil mix Try.func56 rfl (by kernel_rfl) ?_
  rintro a0 r hF
  refine ⟨of_decide_eq_true rfl, ?_⟩
  refine st1 ?_
  refine st_loopF (e_assoc hF) () [(0, _), (2, _)] ⟨sT, sS, by rfl, by rfl⟩ ?_
  · as_aux_lemma =>
    rintro n ⟨_, _, _⟩ _ x hx1 hF
    (conv => arg 7; whnf); (conv => arg 8; whnf); (conv => arg 9; whnf)
    refine st1 ?_
    rcases e_bif hF with ⟨hb3, hF⟩ | ⟨hb3, hF⟩ <;> (first | rw [hb3] | (conv => arg 7; rw [hb3]) | (conv => arg 9; rw [hb3]))
    · refine st1 ?_
      obtain ⟨_, h, hF⟩ := e_bind hF
      (first | refine o_ia (enc := eTBounds) (s := 2) h (fun _ => rfl) (by decide) ?_ | refine o_iaT (enc := eTBounds) (s := 2) h (fun _ => rfl) (by decide) ?_)
      intro _
      refine st1 ?_
      exact k_loopF (e_some hF) hx1 () [(0, _), (2, _)] ⟨sT, sS, by rfl, by rfl⟩
    · refine st1 ?_
      have hF := e_some hF
      have hq : some _ = some _ := hF
      cases hq
      exact en1


@[reducible] noncomputable def c_numbers_Every_L_Bounds (C : FuncId → Option Con) : Con := conK F_numbers_Every_L_Bounds (fun x => match x with | (a0, a1, g, caps) => [(V.sl (recs (eS eTBounds) (a0)) (a0).length), (V.fn g caps)]) (fun x => match x with | (a0, a1, g, caps) => Callable (ext C []) g caps (fun x => match x with | (q0) => [(V.sl (recs eTBounds (q0)) (q0).length)]) (fun r => (V.v (.bool (r)))) a1) (fun r => (V.v (.bool (r))))
theorem h_numbers_Every_L_Bounds {C : FuncId → Option Con} (hC : CtxOK Try.prog C) : Has Try.prog 81 (c_numbers_Every_L_Bounds C) := by
  refine hasK (ext_nil hC) mix Try.func81 rfl (by kernel_rfl) ?_
  rintro ⟨a0, a1, g, caps⟩ r hcl hF
  obtain ⟨hcaps, c, hc, hce, hcf, hcall⟩ := id hcl
  refine ⟨of_decide_eq_true rfl, ?_⟩
  refine st1 ?_
  refine st_loopF (e_assoc hF) () [] ⟨sT, sS, by rfl, by rfl⟩ ?_
  · as_aux_lemma =>
    rintro n _ _ x hx1 hF
    (conv => arg 7; whnf); (conv => arg 8; whnf); (conv => arg 9; whnf)
    refine st1 ?_
    rcases e_bif hF with ⟨hb5, hF⟩ | ⟨hb5, hF⟩ <;> (first | rw [hb5] | (conv => arg 7; rw [hb5]) | (conv => arg 9; rw [hb5]))
    · refine st1 ?_
      obtain ⟨_, h, hF⟩ := e_bind hF
      (first | refine o_ia (enc := (eS eTBounds)) (s := 1) h (fun _ => rfl) (by decide) ?_ | refine o_iaT (enc := (eS eTBounds)) (s := 1) h (fun _ => rfl) (by decide) ?_)
      intro _
      refine st1 ?_
      obtain ⟨_, h, hF⟩ := e_bind hF
      rw [hc]
      (conv => arg 1; whnf)
      rw [hce, hcf]
      (conv => arg 1; whnf)
      (first | refine go_map hcaps rfl ?_ | refine goT_map hcaps rfl ?_)
      (conv => arg 1; whnf)
      obtain ⟨z, hz1, hz2, hz3⟩ := hcall _ _ h
      (first | refine go_exi z ⟨levs_eq hz1.symm, hz2⟩ ?_ | refine goT_exi z ⟨levs_eq hz1.symm, hz2⟩ ?_)
      rw [hz3]
      (conv => arg 1; whnf)
      refine st1 ?_
      rcases e_bif hF with ⟨hb6, hF⟩ | ⟨hb6, hF⟩ <;> (first | rw [hb6] | (conv => arg 7; rw [hb6]) | (conv => arg 9; rw [hb6]))
      · refine st1 ?_
        have hF := e_some hF
        have hq : some _ = some _ := hF
        cases hq
        exact en1
      · refine st1 ?_
        exact k_loopF (e_some hF) hx1 () [] ⟨sT, sS, by rfl, by rfl⟩
    · refine st1 ?_
      have hF := e_some hF
      have hq : some _ = some _ := hF
      cases hq
      exact en1


@[reducible] noncomputable def c_river_checkForecast_1 : Con := conF F_river_checkForecast_1 (fun x => match x with | (a0, c0) => [(V.sl (recs eTBounds (a0)) (a0).length), (V.fptr [(V.v (.int .i64 (c0)))])]) (fun r => (V.v (.bool (r))))
theorem h_river_checkForecast_1 : Has Try.prog 82 c_river_checkForecast_1 := by
  refine hasF ctx_nil mix Try.func82 rfl (by kernel_rfl) ?_
  rintro ⟨a0, c0⟩ r hF
  refine ⟨of_decide_eq_true rfl, ?_⟩
  refine st1 ?_
  have hq : some _ = some _ := hF
  cases hq
  exact en1


@[reducible] noncomputable def c_river_checkForecast_2 : Con := conF F_river_checkForecast_2 (fun x => match x with | (a0) => [(V.agg (eTBounds a0))]) (fun r => (V.v (.bool (r))))
theorem h_river_checkForecast_2 : Has Try.prog 83 c_river_checkForecast_2 := by
  refine hasF (ctx_cons h_numbers_Valid ctx_nil) mix Try.func83 rfl (by kernel_rfl) ?_
  rintro a0 r hF
  refine ⟨of_decide_eq_true rfl, ?_⟩
  refine st1 ?_
  obtain ⟨_, h, hF⟩ := e_bind hF
  (first | refine g_call h lv1 ?_ | refine g_callT h lv1 ?_)
  (conv => arg 1; whnf)
  refine st1 ?_
  have hq : some _ = some _ := hF
  cases hq
  exact en1


@[reducible] noncomputable def c_numbers_Every_Bounds (C : FuncId → Option Con) : Con := conK F_numbers_Every_Bounds (fun x => match x with | (a0, a1, g, caps) => [(V.sl (recs eTBounds (a0)) (a0).length), (V.fn g caps)]) (fun x => match x with | (a0, a1, g, caps) => Callable (ext C []) g caps (fun x => match x with | (q0) => [(V.agg (eTBounds q0))]) (fun r => (V.v (.bool (r)))) a1) (fun r => (V.v (.bool (r))))
theorem h_numbers_Every_Bounds {C : FuncId → Option Con} (hC : CtxOK Try.prog C) : Has Try.prog 85 (c_numbers_Every_Bounds C) := by
  refine hasK (ext_nil hC) mix Try.func85 rfl (by kernel_rfl) ?_
  rintro ⟨a0, a1, g, caps⟩ r hcl hF
  obtain ⟨hcaps, c, hc, hce, hcf, hcall⟩ := id hcl
  refine ⟨of_decide_eq_true rfl, ?_⟩
  refine st1 ?_
  refine st_loopF (e_assoc hF) () [] ⟨sT, sS, by rfl, by rfl⟩ ?_
  · as_aux_lemma =>
    rintro n _ _ x hx1 hF
    (conv => arg 7; whnf); (conv => arg 8; whnf); (conv => arg 9; whnf)
    refine st1 ?_
    rcases e_bif hF with ⟨hb5, hF⟩ | ⟨hb5, hF⟩ <;> (first | rw [hb5] | (conv => arg 7; rw [hb5]) | (conv => arg 9; rw [hb5]))
    · refine st1 ?_
      obtain ⟨_, h, hF⟩ := e_bind hF
      (first | refine o_ia (enc := eTBounds) (s := 2) h (fun _ => rfl) (by decide) ?_ | refine o_iaT (enc := eTBounds) (s := 2) h (fun _ => rfl) (by decide) ?_)
      intro _
      refine st1 ?_
      obtain ⟨_, h, hF⟩ := e_bind hF
      rw [hc]
      (conv => arg 1; whnf)
      rw [hce, hcf]
      (conv => arg 1; whnf)
      (first | refine go_map hcaps rfl ?_ | refine goT_map hcaps rfl ?_)
      (conv => arg 1; whnf)
      obtain ⟨z, hz1, hz2, hz3⟩ := hcall _ _ h
      (first | refine go_exi z ⟨levs_eq hz1.symm, hz2⟩ ?_ | refine goT_exi z ⟨levs_eq hz1.symm, hz2⟩ ?_)
      rw [hz3]
      (conv => arg 1; whnf)
      refine st1 ?_
      rcases e_bif hF with ⟨hb6, hF⟩ | ⟨hb6, hF⟩ <;> (first | rw [hb6] | (conv => arg 7; rw [hb6]) | (conv => arg 9; rw [hb6]))
      · refine st1 ?_
        have hF := e_some hF
        have hq : some _ = some _ := hF
        cases hq
        exact en1
      · refine st1 ?_
        exact k_loopF (e_some hF) hx1 () [] ⟨sT, sS, by rfl, by rfl⟩
    · refine st1 ?_
      have hF := e_some hF
      have hq : some _ = some _ := hF
      cases hq
      exact en1


@[reducible] noncomputable def c_river_checkForecast_3 (C : FuncId → Option Con) : Con := conK F_river_checkForecast_3 (fun x => match x with | (a0, c0, g, caps) => [(V.sl (recs eTBounds (a0)) (a0).length), (V.fptr [(V.fn g caps)])]) (fun x => match x with | (a0, c0, g, caps) => Callable (ext C []) g caps (fun x => match x with | (q0) => [(V.agg (eTBounds q0))]) (fun r => (V.v (.bool (r)))) c0 ∧ Callable (ext C [(85, c_numbers_Every_Bounds C)]) g caps (fun x => match x with | (q0) => [(V.agg (eTBounds q0))]) (fun r => (V.v (.bool (r)))) c0) (fun r => (V.v (.bool (r))))
theorem h_river_checkForecast_3 {C : FuncId → Option Con} (hC : CtxOK Try.prog C) : Has Try.prog 84 (c_river_checkForecast_3 C) := by
  refine hasK (ext_cons (h_numbers_Every_Bounds hC) (ext_nil hC)) mix Try.func84 rfl (by kernel_rfl) ?_
  rintro ⟨a0, c0, g, caps⟩ r ⟨hc0, hcl⟩ hF
  obtain ⟨hcaps, c, hc, hce, hcf, hcall⟩ := id hcl
  refine ⟨of_decide_eq_true rfl, ?_⟩
  refine st1 ?_
  obtain ⟨_, h, hF⟩ := e_bind hF
  (first | refine go_map hcaps rfl ?_ | refine goT_map hcaps rfl ?_)
  (conv => arg 1; whnf)
  (first | refine g_hcall h lv1 (by exact hc0) ?_ | refine g_hcallT h lv1 (by exact hc0) ?_)
  (conv => arg 1; whnf)
  refine st1 ?_
  have hq : some _ = some _ := hF
  cases hq
  exact en1


@[reducible] noncomputable def c_river_checkForecast : Con := conF F_river_checkForecast (fun x => match x with | (a0, a1) => [(V.agg (eTRiver a0)), (V.sl (recs (eS eTBounds) (a1)) (a1).length)]) (fun r => (V.v (.int .i64 (r))))
theorem h_river_checkForecast : Has Try.prog 59 c_river_checkForecast := by
  refine hasF (ctx_cons (h_numbers_Every_L_Bounds (ctx_cons (h_river_checkForecast_3 (ctx_cons h_river_checkForecast_2 ctx_nil)) (ctx_cons h_river_checkForecast_1 ctx_nil))) ctx_nil) mix Try.func59 rfl (by kernel_rfl) ?_
  rintro ⟨a0, a1⟩ r hF
  refine ⟨of_decide_eq_true rfl, ?_⟩
  refine st1 ?_
  rcases e_bif hF with ⟨hb1, hF⟩ | ⟨hb1, hF⟩ <;> (first | rw [hb1] | (conv => arg 7; rw [hb1]) | (conv => arg 9; rw [hb1]))
  · refine st1 ?_
    have hq : some _ = some _ := hF
    cases hq
    exact en1
  · refine st1 ?_
    obtain ⟨_, h, hF⟩ := e_bind hF
    (first | refine o_ia (enc := (eS eTBounds)) (s := 1) h (fun _ => rfl) (by decide) ?_ | refine o_iaT (enc := (eS eTBounds)) (s := 1) h (fun _ => rfl) (by decide) ?_)
    intro _
    refine st1 ?_
    rcases e_bif hF with ⟨hb2, hF⟩ | ⟨hb2, hF⟩ <;> (first | rw [hb2] | (conv => arg 7; rw [hb2]) | (conv => arg 9; rw [hb2]))
    · refine st1 ?_
      have hq : some _ = some _ := hF
      cases hq
      exact en1
    · refine st1 ?_
      obtain ⟨_, h, hF⟩ := e_bind hF
      (first | refine g_hcall h lv1 (callable_conF rfl rfl (fun _ => rfl)) ?_ | refine g_hcallT h lv1 (callable_conF rfl rfl (fun _ => rfl)) ?_)
      (conv => arg 1; whnf)
      refine st1 ?_
      rcases e_bif hF with ⟨hb3, hF⟩ | ⟨hb3, hF⟩ <;> (first | rw [hb3] | (conv => arg 7; rw [hb3]) | (conv => arg 9; rw [hb3]))
      · refine st1 ?_
        have hq : some _ = some _ := hF
        cases hq
        exact en1
      · refine st1 ?_
        rcases e_bif hF with ⟨hb4, hF⟩ | ⟨hb4, hF⟩ <;> (first | rw [hb4] | (conv => arg 7; rw [hb4]) | (conv => arg 9; rw [hb4]))
        · refine st1 ?_
          have hq : some _ = some _ := hF
          cases hq
          exact en1
        · refine st1 ?_
          obtain ⟨_, h, hF⟩ := e_bind hF
          (first | refine g_hcall h lv1 (callable_conK rfl rfl (fun _ => rfl) (fun _ => ⟨callable_conF rfl rfl (fun _ => rfl), callable_conF rfl rfl (fun _ => rfl)⟩)) ?_ | refine g_hcallT h lv1 (callable_conK rfl rfl (fun _ => rfl) (fun _ => ⟨callable_conF rfl rfl (fun _ => rfl), callable_conF rfl rfl (fun _ => rfl)⟩)) ?_)
          (conv => arg 1; whnf)
          refine st1 ?_
          rcases e_bif hF with ⟨hb5, hF⟩ | ⟨hb5, hF⟩ <;> (first | rw [hb5] | (conv => arg 7; rw [hb5]) | (conv => arg 9; rw [hb5]))
          · refine st1 ?_
            have hq : some _ = some _ := hF
            cases hq
            exact en1
          · refine st1 ?_
            have hq : some _ = some _ := hF
            cases hq
            exact en1


@[reducible] noncomputable def c_river_stream_inflow : Con := conF F_river_stream_inflow (fun x => match x with | (a0, a1, a2) => [(V.agg (eTriver_stream a0)), (V.v (.int .i64 (a1))), (V.v (.int .i64 (a2)))]) (fun r => (V.agg (eTBounds r)))
theorem h_river_stream_inflow : Has Try.prog 60 c_river_stream_inflow := by
  refine hasF ctx_nil mix Try.func60 rfl (by kernel_rfl) ?_
  rintro ⟨a0, a1, a2⟩ r hF
  refine ⟨of_decide_eq_true rfl, ?_⟩
  refine st1 ?_
  rcases e_bif hF with ⟨hb1, hF⟩ | ⟨hb1, hF⟩ <;> (first | rw [hb1] | (conv => arg 7; rw [hb1]) | (conv => arg 9; rw [hb1]))
  · refine st1 ?_
    have hq : some _ = some _ := hF
    cases hq
    exact en1
  · refine st1 ?_
    obtain ⟨_, h, hF⟩ := e_bind hF
    (first | refine o_ia (enc := eTReach) (s := 9) h (fun _ => rfl) (by decide) ?_ | refine o_iaT (enc := eTReach) (s := 9) h (fun _ => rfl) (by decide) ?_)
    intro _
    refine st1 ?_
    rcases e_bif hF with ⟨hb2, hF⟩ | ⟨hb2, hF⟩ <;> (first | rw [hb2] | (conv => arg 7; rw [hb2]) | (conv => arg 9; rw [hb2]))
    · refine st1 ?_
      have hq : some _ = some _ := hF
      cases hq
      exact en1
    · refine st1 ?_
      obtain ⟨_, h, hF⟩ := e_bind hF
      (first | refine o_ia (enc := (eS eTBounds)) (s := 1) h (fun _ => rfl) (by decide) ?_ | refine o_iaT (enc := (eS eTBounds)) (s := 1) h (fun _ => rfl) (by decide) ?_)
      intro _
      refine st1 ?_
      obtain ⟨_, h, hF⟩ := e_bind hF
      (first | refine o_ia (enc := eTBounds) (s := 2) h (fun _ => rfl) (by decide) ?_ | refine o_iaT (enc := eTBounds) (s := 2) h (fun _ => rfl) (by decide) ?_)
      intro _
      refine st1 ?_
      have hq : some _ = some _ := hF
      cases hq
      exact en1


@[reducible] noncomputable def c_river_run : Con := conF F_river_run (fun x => match x with | (a0, a1) => [(V.agg (eTRiver a0)), (V.sl (recs (eS eTBounds) (a1)) (a1).length)]) (fun r => V.tup [(V.agg (eTriver_stream r.1)), (V.v (.int .i64 (r.2)))])
theorem h_river_run : Has Try.prog 31 c_river_run := by
  refine hasF (ctx_cons h_river_stream_inflow (ctx_cons h_river_checkForecast (ctx_cons h_numbers_Sum (ctx_cons h_river_Check ctx_nil)))) mix Try.func31 rfl (by kernel_rfl) ?_
  rintro ⟨a0, a1⟩ r hF
  refine ⟨of_decide_eq_true rfl, ?_⟩
  refine st1 ?_
  obtain ⟨_, h, hF⟩ := e_bind hF
  (first | refine g_call h lv1 ?_ | refine g_callT h lv1 ?_)
  (conv => arg 1; whnf)
  refine st1 ?_
  rcases e_bif hF with ⟨hb1, hF⟩ | ⟨hb1, hF⟩ <;> (first | rw [hb1] | (conv => arg 7; rw [hb1]) | (conv => arg 9; rw [hb1]))
  · refine st1 ?_
    have hq : some _ = some _ := hF
    cases hq
    exact en1
  · refine st1 ?_
    obtain ⟨_, h, hF⟩ := e_bind hF
    (first | refine g_call h lv1 ?_ | refine g_callT h lv1 ?_)
    (conv => arg 1; whnf)
    refine st1 ?_
    rcases e_bif hF with ⟨hb2, hF⟩ | ⟨hb2, hF⟩ <;> (first | rw [hb2] | (conv => arg 7; rw [hb2]) | (conv => arg 9; rw [hb2]))
    · refine st1 ?_
      have hq : some _ = some _ := hF
      cases hq
      exact en1
    · refine st1 ?_
      refine st_loopF (e_assoc hF) 0 [(1, _), (16, _)] ⟨sT, sS, by rfl, by rfl⟩ ?_
      · as_aux_lemma =>
        rintro n ⟨_, _⟩ _ x hx1 hF
        (conv => arg 7; whnf); (conv => arg 8; whnf); (conv => arg 9; whnf)
        refine st1 ?_
        rcases e_bif hF with ⟨hb15, hF⟩ | ⟨hb15, hF⟩ <;> (first | rw [hb15] | (conv => arg 7; rw [hb15]) | (conv => arg 9; rw [hb15]))
        · refine st1 ?_
          obtain ⟨_, h, hF⟩ := e_bind hF
          (first | refine o_ia (enc := (eS eTBounds)) (s := 1) h (fun _ => rfl) (by decide) ?_ | refine o_iaT (enc := (eS eTBounds)) (s := 1) h (fun _ => rfl) (by decide) ?_)
          intro _
          refine st1 ?_
          obtain ⟨_, h, hF⟩ := e_bind hF
          (first | refine o_mk (enc := eTBounds) (s := 2) h (by decide) rfl ?_ | refine o_mkT (enc := eTBounds) (s := 2) h (by decide) rfl ?_)
          refine st1 ?_
          refine st_loopF (e_assoc hF) _ [(1, _), (16, _), (17, _), (26, _)] ⟨sT, sS, by rfl, by rfl⟩ ?_
          · as_aux_lemma =>
            rintro n ⟨_, _⟩ _ x hx2 hF
            (conv => arg 7; whnf); (conv => arg 8; whnf); (conv => arg 9; whnf)
            refine st1 ?_
            rcases e_bif hF with ⟨hb18, hF⟩ | ⟨hb18, hF⟩ <;> (first | rw [hb18] | (conv => arg 7; rw [hb18]) | (conv => arg 9; rw [hb18]))
            · refine st1 ?_
              obtain ⟨_, h, hF⟩ := e_bind hF
              (first | refine o_ia (enc := eTBounds) (s := 2) h (fun _ => rfl) (by decide) ?_ | refine o_iaT (enc := eTBounds) (s := 2) h (fun _ => rfl) (by decide) ?_)
              intro _
              refine st1 ?_
              obtain ⟨_, h, hF⟩ := e_bind hF
              (first | refine g_call h lv1 ?_ | refine g_callT h lv1 ?_)
              (conv => arg 1; whnf)
              refine st1 ?_
              obtain ⟨_, h, hF⟩ := e_bind hF
              (first | refine g_call h lv1 ?_ | refine g_callT h lv1 ?_)
              (conv => arg 1; whnf)
              refine st1 ?_
              obtain ⟨_, hi37, hF⟩ := e_bind hF
              (first | refine go_req (oidx_ok hi37 (by decide)) ?_ | refine goT_req (oidx_ok hi37 (by decide)) ?_ | refine go_req (oidx_len hi37 (set_len (by assumption)) (by decide)) ?_ | refine goT_req (oidx_len hi37 (set_len (by assumption)) (by decide)) ?_)
              (conv => arg 1; whnf)
              refine st1 ?_
              obtain ⟨_, h, hF⟩ := e_bind hF
              (first | refine o_stA (enc := eTBounds) (s := 2) hi37 h (fun _ => rfl) (by decide) rfl rfl ?_ | refine o_stB (enc := eTBounds) (s := 2) hi37 h (fun _ => rfl) (by decide) rfl rfl ?_ | refine o_stAT (enc := eTBounds) (s := 2) hi37 h (fun _ => rfl) (by decide) rfl rfl ?_ | refine o_stBT (enc := eTBounds) (s := 2) hi37 h (fun _ => rfl) (by decide) rfl rfl ?_ | refine o_stC (enc := eTBounds) (s := 2) hi37 h (fun _ => rfl) (by decide) rfl rfl ?_ | refine o_stCT (enc := eTBounds) (s := 2) hi37 h (fun _ => rfl) (by decide) rfl rfl ?_)
              refine st1 ?_
              exact k_loopF (e_some hF) hx2 _ [(1, _), (16, _), (17, _), (26, _)] ⟨sT, sS, by rfl, by rfl⟩
            · refine st1 ?_
              have hF := e_some hF
              obtain ⟨_, h, hF⟩ := e_bind hF
              (first | refine o_app (enc := (eS eTBounds)) (s := 1) h (fun _ => rfl) ?_ | refine o_appT (enc := (eS eTBounds)) (s := 1) h (fun _ => rfl) ?_)
              refine st1 ?_
              exact k_loopF (e_some hF) hx1 _ [(1, _), (16, _), (17, _)] ⟨sT, sS, by rfl, by rfl⟩
        · refine st1 ?_
          have hF := e_some hF
          have hq : some _ = some _ := hF
          cases hq
          exact en1


@[reducible] noncomputable def c_river_Flows : Con := conF F_river_Flows (fun x => match x with | (a0, a1) => [(V.agg (eTRiver a0)), (V.sl (recs (eS eTBounds) (a1)) (a1).length)]) (fun r => V.tup [(V.sl (recs (eS eTBounds) (r.1)) (r.1).length), (V.v (.int .i64 (r.2)))])
theorem h_river_Flows : Has Try.prog 11 c_river_Flows := by
  refine hasF (ctx_cons h_river_run ctx_nil) mix Try.func11 rfl (by kernel_rfl) ?_
  rintro ⟨a0, a1⟩ r hF
  refine ⟨of_decide_eq_true rfl, ?_⟩
  refine st1 ?_
  obtain ⟨_, h, hF⟩ := e_bind hF
  (first | refine g_call h lv1 ?_ | refine g_callT h lv1 ?_)
  (conv => arg 1; whnf)
  refine st1 ?_
  have hq : some _ = some _ := hF
  cases hq
  exact en1


@[reducible] noncomputable def c_river_stream_hours : Con := conF F_river_stream_hours (fun x => match x with | (a0) => [(V.agg (eTriver_stream a0))]) (fun r => (V.v (.int .i64 (r))))
theorem h_river_stream_hours : Has Try.prog 32 c_river_stream_hours := by
  refine hasF ctx_nil mix Try.func32 rfl (by kernel_rfl) ?_
  rintro a0 r hF
  refine ⟨of_decide_eq_true rfl, ?_⟩
  refine st1 ?_
  obtain ⟨_, h, hF⟩ := e_bind hF
  (first | refine o_ia (enc := (eS eTBounds)) (s := 1) h (fun _ => rfl) (by decide) ?_ | refine o_iaT (enc := (eS eTBounds)) (s := 1) h (fun _ => rfl) (by decide) ?_)
  intro _
  refine st1 ?_
  have hq : some _ = some _ := hF
  cases hq
  exact en1


@[reducible] noncomputable def c_numbers_Down : Con := conF F_numbers_Down (fun x => match x with | (a0, a1) => [(V.v (.int .i64 (a0))), (V.v (.int .i64 (a1)))]) (fun r => (V.v (.int .i64 (r))))
theorem h_numbers_Down : Has Try.prog 57 c_numbers_Down := by
  refine hasF ctx_nil mix Try.func57 rfl (by kernel_rfl) ?_
  rintro ⟨a0, a1⟩ r hF
  refine ⟨of_decide_eq_true rfl, ?_⟩
  refine st1 ?_
  obtain ⟨_, h, hF⟩ := e_bind hF
  (first | refine go_req (nz_ne h) ?_ | refine goT_req (nz_ne h) ?_)
  (conv => arg 1; whnf)
  refine st1 ?_
  rcases e_bif hF with ⟨hb1, hF⟩ | ⟨hb1, hF⟩ <;> (first | rw [hb1] | (conv => arg 7; rw [hb1]) | (conv => arg 9; rw [hb1]))
  · refine st1 ?_
    obtain ⟨_, h, hF⟩ := e_bind hF
    (first | refine go_req (nz_ne h) ?_ | refine goT_req (nz_ne h) ?_)
    (conv => arg 1; whnf)
    refine st1 ?_
    have hq : some _ = some _ := hF
    cases hq
    exact en1
  · refine st1 ?_
    obtain ⟨_, h, hF⟩ := e_bind hF
    (first | refine go_req (nz_ne h) ?_ | refine goT_req (nz_ne h) ?_)
    (conv => arg 1; whnf)
    refine st1 ?_
    have hq : some _ = some _ := hF
    cases hq
    exact en1


@[reducible] noncomputable def c_numbers_Up : Con := conF F_numbers_Up (fun x => match x with | (a0, a1) => [(V.v (.int .i64 (a0))), (V.v (.int .i64 (a1)))]) (fun r => (V.v (.int .i64 (r))))
theorem h_numbers_Up : Has Try.prog 58 c_numbers_Up := by
  refine hasF (ctx_cons h_numbers_Down ctx_nil) mix Try.func58 rfl (by kernel_rfl) ?_
  rintro ⟨a0, a1⟩ r hF
  refine ⟨of_decide_eq_true rfl, ?_⟩
  refine st1 ?_
  obtain ⟨_, h, hF⟩ := e_bind hF
  (first | refine g_call h lv1 ?_ | refine g_callT h lv1 ?_)
  (conv => arg 1; whnf)
  refine st1 ?_
  have hq : some _ = some _ := hF
  cases hq
  exact en1


@[reducible] noncomputable def c_slices_IndexFunc_L_RateRow_RateRow (C : FuncId → Option Con) : Con := conK F_slices_IndexFunc_L_RateRow_RateRow (fun x => match x with | (a0, a1, g, caps) => [(V.sl (recs eTRateRow (a0)) (a0).length), (V.fn g caps)]) (fun x => match x with | (a0, a1, g, caps) => Callable (ext C []) g caps (fun x => match x with | (q0) => [(V.agg (eTRateRow q0))]) (fun r => (V.v (.bool (r)))) a1) (fun r => (V.v (.int .i64 (r))))
theorem h_slices_IndexFunc_L_RateRow_RateRow {C : FuncId → Option Con} (hC : CtxOK Try.prog C) : Has Try.prog 89 (c_slices_IndexFunc_L_RateRow_RateRow C) := by
  refine hasK (ext_nil hC) mix Try.func89 rfl (by kernel_rfl) ?_
  rintro ⟨a0, a1, g, caps⟩ r hcl hF
  obtain ⟨hcaps, c, hc, hce, hcf, hcall⟩ := id hcl
  refine ⟨of_decide_eq_true rfl, ?_⟩
  refine st1 ?_
  refine st_loopF (e_assoc hF) () [] ⟨sT, sS, by rfl, by rfl⟩ ?_
  · as_aux_lemma =>
    rintro n _ _ x hx1 hF
    (conv => arg 7; whnf); (conv => arg 8; whnf); (conv => arg 9; whnf)
    refine st1 ?_
    rcases e_bif hF with ⟨hb5, hF⟩ | ⟨hb5, hF⟩ <;> (first | rw [hb5] | (conv => arg 7; rw [hb5]) | (conv => arg 9; rw [hb5]))
    · refine st1 ?_
      obtain ⟨_, h, hF⟩ := e_bind hF
      (first | refine o_ia (enc := eTRateRow) (s := 2) h (fun _ => rfl) (by decide) ?_ | refine o_iaT (enc := eTRateRow) (s := 2) h (fun _ => rfl) (by decide) ?_)
      intro _
      refine st1 ?_
      obtain ⟨_, h, hF⟩ := e_bind hF
      rw [hc]
      (conv => arg 1; whnf)
      rw [hce, hcf]
      (conv => arg 1; whnf)
      (first | refine go_map hcaps rfl ?_ | refine goT_map hcaps rfl ?_)
      (conv => arg 1; whnf)
      obtain ⟨z, hz1, hz2, hz3⟩ := hcall _ _ h
      (first | refine go_exi z ⟨levs_eq hz1.symm, hz2⟩ ?_ | refine goT_exi z ⟨levs_eq hz1.symm, hz2⟩ ?_)
      rw [hz3]
      (conv => arg 1; whnf)
      refine st1 ?_
      rcases e_bif hF with ⟨hb6, hF⟩ | ⟨hb6, hF⟩ <;> (first | rw [hb6] | (conv => arg 7; rw [hb6]) | (conv => arg 9; rw [hb6]))
      · refine st1 ?_
        have hF := e_some hF
        have hq : some _ = some _ := hF
        cases hq
        exact en1
      · refine st1 ?_
        exact k_loopF (e_some hF) hx1 () [] ⟨sT, sS, by rfl, by rfl⟩
    · refine st1 ?_
      have hF := e_some hF
      have hq : some _ = some _ := hF
      cases hq
      exact en1


@[reducible] noncomputable def c_river_curveAt_1 : Con := conF F_river_curveAt_1 (fun x => match x with | (a0, c0) => [(V.agg (eTRateRow a0)), (V.fptr [(V.v (.int .i64 (c0)))])]) (fun r => (V.v (.bool (r))))
theorem h_river_curveAt_1 : Has Try.prog 90 c_river_curveAt_1 := by
  refine hasF ctx_nil mix Try.func90 rfl (by kernel_rfl) ?_
  rintro ⟨a0, c0⟩ r hF
  refine ⟨of_decide_eq_true rfl, ?_⟩
  refine st1 ?_
  have hq : some _ = some _ := hF
  cases hq
  exact en1


@[reducible] noncomputable def c_river_curveAt (C : FuncId → Option Con) : Con := conK F_river_curveAt (fun x => match x with | (a0, a1, a2, g, caps) => [(V.sl (recs eTRateRow (a0)) (a0).length), (V.v (.int .i64 (a1))), (V.fn g caps)]) (fun x => match x with | (a0, a1, a2, g, caps) => Callable (ext C [(89, c_slices_IndexFunc_L_RateRow_RateRow (ctx [(90, c_river_curveAt_1)]))]) g caps (fun x => match x with | (q0, q1) => [(V.v (.int .i64 (q0))), (V.v (.int .i64 (q1)))]) (fun r => (V.v (.int .i64 (r)))) a2) (fun r => (V.v (.int .i64 (r))))
theorem h_river_curveAt {C : FuncId → Option Con} (hC : CtxOK Try.prog C) : Has Try.prog 71 (c_river_curveAt C) := by
  refine hasK (ext_cons (h_slices_IndexFunc_L_RateRow_RateRow (ctx_cons h_river_curveAt_1 ctx_nil)) (ext_nil hC)) mix Try.func71 rfl (by kernel_rfl) ?_
  rintro ⟨a0, a1, a2, g, caps⟩ r hcl hF
  obtain ⟨hcaps, c, hc, hce, hcf, hcall⟩ := id hcl
  refine ⟨of_decide_eq_true rfl, ?_⟩
  refine st1 ?_
  obtain ⟨_, h, hF⟩ := e_bind hF
  (first | refine g_hcall h lv1 (callable_conF rfl rfl (fun _ => rfl)) ?_ | refine g_hcallT h lv1 (callable_conF rfl rfl (fun _ => rfl)) ?_)
  (conv => arg 1; whnf)
  refine st1 ?_
  rcases e_bif hF with ⟨hb1, hF⟩ | ⟨hb1, hF⟩ <;> (first | rw [hb1] | (conv => arg 7; rw [hb1]) | (conv => arg 9; rw [hb1]))
  · refine st1 ?_
    obtain ⟨_, h, hF⟩ := e_bind hF
    (first | refine o_ia (enc := eTRateRow) (s := 2) h (fun _ => rfl) (by decide) ?_ | refine o_iaT (enc := eTRateRow) (s := 2) h (fun _ => rfl) (by decide) ?_)
    intro _
    refine st1 ?_
    have hq : some _ = some _ := hF
    cases hq
    exact en1
  · refine st1 ?_
    rcases e_bif hF with ⟨hb2, hF⟩ | ⟨hb2, hF⟩ <;> (first | rw [hb2] | (conv => arg 7; rw [hb2]) | (conv => arg 9; rw [hb2]))
    · refine st1 ?_
      obtain ⟨_, h, hF⟩ := e_bind hF
      (first | refine o_ia (enc := eTRateRow) (s := 2) h (fun _ => rfl) (by decide) ?_ | refine o_iaT (enc := eTRateRow) (s := 2) h (fun _ => rfl) (by decide) ?_)
      intro _
      refine st1 ?_
      have hq : some _ = some _ := hF
      cases hq
      exact en1
    · refine st1 ?_
      obtain ⟨_, h, hF⟩ := e_bind hF
      (first | refine o_ia (enc := eTRateRow) (s := 2) h (fun _ => rfl) (by decide) ?_ | refine o_iaT (enc := eTRateRow) (s := 2) h (fun _ => rfl) (by decide) ?_)
      intro _
      refine st1 ?_
      obtain ⟨_, h, hF⟩ := e_bind hF
      (first | refine o_ia (enc := eTRateRow) (s := 2) h (fun _ => rfl) (by decide) ?_ | refine o_iaT (enc := eTRateRow) (s := 2) h (fun _ => rfl) (by decide) ?_)
      intro _
      refine st1 ?_
      obtain ⟨_, h, hF⟩ := e_bind hF
      rw [hc]
      (conv => arg 1; whnf)
      rw [hce, hcf]
      (conv => arg 1; whnf)
      (first | refine go_map hcaps rfl ?_ | refine goT_map hcaps rfl ?_)
      (conv => arg 1; whnf)
      obtain ⟨z, hz1, hz2, hz3⟩ := hcall _ _ h
      (first | refine go_exi z ⟨levs_eq hz1.symm, hz2⟩ ?_ | refine goT_exi z ⟨levs_eq hz1.symm, hz2⟩ ?_)
      rw [hz3]
      (conv => arg 1; whnf)
      refine st1 ?_
      have hq : some _ = some _ := hF
      cases hq
      exact en1


@[reducible] noncomputable def c_river_levelAt : Con := conF F_river_levelAt (fun x => match x with | (a0, a1) => [(V.agg (eTReach a0)), (V.agg (eTBounds a1))]) (fun r => (V.agg (eTBounds r)))
theorem h_river_levelAt : Has Try.prog 42 c_river_levelAt := by
  refine hasF (ctx_cons (h_river_curveAt (ctx_cons h_numbers_Up (ctx_cons h_numbers_Down ctx_nil))) ctx_nil) mix Try.func42 rfl (by kernel_rfl) ?_
  rintro ⟨a0, a1⟩ r hF
  refine ⟨of_decide_eq_true rfl, ?_⟩
  refine st1 ?_
  obtain ⟨_, h, hF⟩ := e_bind hF
  (first | refine g_hcall h lv1 (callable_conF rfl rfl (fun _ => rfl)) ?_ | refine g_hcallT h lv1 (callable_conF rfl rfl (fun _ => rfl)) ?_)
  (conv => arg 1; whnf)
  refine st1 ?_
  obtain ⟨_, h, hF⟩ := e_bind hF
  (first | refine g_hcall h lv1 (callable_conF rfl rfl (fun _ => rfl)) ?_ | refine g_hcallT h lv1 (callable_conF rfl rfl (fun _ => rfl)) ?_)
  (conv => arg 1; whnf)
  refine st1 ?_
  have hq : some _ = some _ := hF
  cases hq
  exact en1


@[reducible] noncomputable def c_river_stream_level : Con := conF F_river_stream_level (fun x => match x with | (a0, a1, a2) => [(V.agg (eTriver_stream a0)), (V.v (.int .i64 (a1))), (V.v (.int .i64 (a2)))]) (fun r => (V.agg (eTBounds r)))
theorem h_river_stream_level : Has Try.prog 33 c_river_stream_level := by
  refine hasF (ctx_cons h_river_levelAt ctx_nil) mix Try.func33 rfl (by kernel_rfl) ?_
  rintro ⟨a0, a1, a2⟩ r hF
  refine ⟨of_decide_eq_true rfl, ?_⟩
  refine st1 ?_
  obtain ⟨_, h, hF⟩ := e_bind hF
  (first | refine o_ia (enc := eTReach) (s := 9) h (fun _ => rfl) (by decide) ?_ | refine o_iaT (enc := eTReach) (s := 9) h (fun _ => rfl) (by decide) ?_)
  intro _
  refine st1 ?_
  obtain ⟨_, h, hF⟩ := e_bind hF
  (first | refine o_ia (enc := (eS eTBounds)) (s := 1) h (fun _ => rfl) (by decide) ?_ | refine o_iaT (enc := (eS eTBounds)) (s := 1) h (fun _ => rfl) (by decide) ?_)
  intro _
  refine st1 ?_
  obtain ⟨_, h, hF⟩ := e_bind hF
  (first | refine o_ia (enc := eTBounds) (s := 2) h (fun _ => rfl) (by decide) ?_ | refine o_iaT (enc := eTBounds) (s := 2) h (fun _ => rfl) (by decide) ?_)
  intro _
  refine st1 ?_
  obtain ⟨_, h, hF⟩ := e_bind hF
  (first | refine g_call h lv1 ?_ | refine g_callT h lv1 ?_)
  (conv => arg 1; whnf)
  refine st1 ?_
  have hq : some _ = some _ := hF
  cases hq
  exact en1


@[reducible] noncomputable def c_river_Levels : Con := conF F_river_Levels (fun x => match x with | (a0, a1) => [(V.agg (eTRiver a0)), (V.sl (recs (eS eTBounds) (a1)) (a1).length)]) (fun r => V.tup [(V.sl (recs (eS eTBounds) (r.1)) (r.1).length), (V.v (.int .i64 (r.2)))])
theorem h_river_Levels : Has Try.prog 12 c_river_Levels := by
  refine hasF (ctx_cons h_river_stream_level (ctx_cons h_river_stream_hours (ctx_cons h_river_run ctx_nil))) mix Try.func12 rfl (by kernel_rfl) ?_
  rintro ⟨a0, a1⟩ r hF
  refine ⟨of_decide_eq_true rfl, ?_⟩
  refine st1 ?_
  obtain ⟨_, h, hF⟩ := e_bind hF
  (first | refine g_call h lv1 ?_ | refine g_callT h lv1 ?_)
  (conv => arg 1; whnf)
  refine st1 ?_
  rcases e_bif hF with ⟨hb1, hF⟩ | ⟨hb1, hF⟩ <;> (first | rw [hb1] | (conv => arg 7; rw [hb1]) | (conv => arg 9; rw [hb1]))
  · refine st1 ?_
    have hq : some _ = some _ := hF
    cases hq
    exact en1
  · refine st1 ?_
    obtain ⟨_, h, hF⟩ := e_bind hF
    (first | refine o_mkn (enc := eTBounds) h ?_ | refine o_mknT (enc := eTBounds) h ?_)
    refine st1 ?_
    refine st_loopF (e_assoc hF) () [(9, _), (18, _)] ⟨sT, sS, by rfl, by rfl⟩ ?_
    · as_aux_lemma =>
      rintro n ⟨_, _⟩ _ x hx1 hF
      (conv => arg 7; whnf); (conv => arg 8; whnf); (conv => arg 9; whnf)
      refine st1 ?_
      rcases e_bif hF with ⟨hb10, hF⟩ | ⟨hb10, hF⟩ <;> (first | rw [hb10] | (conv => arg 7; rw [hb10]) | (conv => arg 9; rw [hb10]))
      · refine st1 ?_
        obtain ⟨_, h, hF⟩ := e_bind hF
        (first | refine g_call h lv1 ?_ | refine g_callT h lv1 ?_)
        (conv => arg 1; whnf)
        refine st1 ?_
        refine st_loopF (e_assoc hF) () [(9, _), (18, _)] ⟨sT, sS, by rfl, by rfl⟩ ?_
        · as_aux_lemma =>
          rintro n ⟨_, _⟩ _ x hx2 hF
          (conv => arg 7; whnf); (conv => arg 8; whnf); (conv => arg 9; whnf)
          refine st1 ?_
          rcases e_bif hF with ⟨hb13, hF⟩ | ⟨hb13, hF⟩ <;> (first | rw [hb13] | (conv => arg 7; rw [hb13]) | (conv => arg 9; rw [hb13]))
          · refine st1 ?_
            obtain ⟨_, hi34, hF⟩ := e_bind hF
            (first | refine go_req (oidx_ok hi34 (by decide)) ?_ | refine goT_req (oidx_ok hi34 (by decide)) ?_ | refine go_req (oidx_len hi34 (set_len (by assumption)) (by decide)) ?_ | refine goT_req (oidx_len hi34 (set_len (by assumption)) (by decide)) ?_)
            (conv => arg 1; whnf)
            refine st1 ?_
            (first | refine o_tk (enc := eTBounds) hi34 ?_ | refine o_tkT (enc := eTBounds) hi34 ?_)
            refine st1 ?_
            obtain ⟨_, h, hF⟩ := e_bind hF
            (first | refine g_call h lv1 ?_ | refine g_callT h lv1 ?_)
            (conv => arg 1; whnf)
            refine st1 ?_
            obtain ⟨_, h, hF⟩ := e_bind hF
            (first | refine o_app (enc := eTBounds) (s := 2) h (fun _ => rfl) ?_ | refine o_appT (enc := eTBounds) (s := 2) h (fun _ => rfl) ?_)
            refine st1 ?_
            obtain ⟨_, hi38, hF⟩ := e_bind hF
            (first | refine go_req (oidx_ok hi38 (by decide)) ?_ | refine goT_req (oidx_ok hi38 (by decide)) ?_ | refine go_req (oidx_len hi38 (set_len (by assumption)) (by decide)) ?_ | refine goT_req (oidx_len hi38 (set_len (by assumption)) (by decide)) ?_)
            (conv => arg 1; whnf)
            refine st1 ?_
            obtain ⟨_, h, hF⟩ := e_bind hF
            (first | refine o_gv (enc := eTBounds) h (fun _ => rfl) (by decide) rfl (.inr rfl) (by decide) ?_ | refine o_gvT (enc := eTBounds) h (fun _ => rfl) (by decide) rfl (.inr rfl) (by decide) ?_)
            refine st1 ?_
            exact k_loopF (e_some hF) hx2 () [(9, _), (18, _)] ⟨sT, sS, by rfl, by rfl⟩
          · refine st1 ?_
            have hF := e_some hF
            exact k_loopF (e_some hF) hx1 () [(9, _), (18, _)] ⟨sT, sS, by rfl, by rfl⟩
      · refine st1 ?_
        have hF := e_some hF
        have hq : some _ = some _ := hF
        cases hq
        exact en1


@[reducible] noncomputable def c_river_Level : Con := conF F_river_Level (fun x => match x with | (a0, a1) => [(V.agg (eTReach a0)), (V.agg (eTBounds a1))]) (fun r => V.tup [(V.agg (eTBounds r.1)), (V.v (.int .i64 (r.2)))])
theorem h_river_Level : Has Try.prog 20 c_river_Level := by
  refine hasF (ctx_cons h_river_levelAt (ctx_cons h_numbers_Valid (ctx_cons h_river_validReach ctx_nil))) mix Try.func20 rfl (by kernel_rfl) ?_
  rintro ⟨a0, a1⟩ r hF
  refine ⟨of_decide_eq_true rfl, ?_⟩
  refine st1 ?_
  obtain ⟨_, h, hF⟩ := e_bind hF
  (first | refine g_call h lv1 ?_ | refine g_callT h lv1 ?_)
  (conv => arg 1; whnf)
  refine st1 ?_
  rcases e_bif hF with ⟨hb1, hF⟩ | ⟨hb1, hF⟩ <;> (first | rw [hb1] | (conv => arg 7; rw [hb1]) | (conv => arg 9; rw [hb1]))
  · refine st1 ?_
    have hq : some _ = some _ := hF
    cases hq
    exact en1
  · refine st1 ?_
    obtain ⟨_, h, hF⟩ := e_bind hF
    (first | refine g_call h lv1 ?_ | refine g_callT h lv1 ?_)
    (conv => arg 1; whnf)
    refine st1 ?_
    rcases e_bif hF with ⟨hb2, hF⟩ | ⟨hb2, hF⟩ <;> (first | rw [hb2] | (conv => arg 7; rw [hb2]) | (conv => arg 9; rw [hb2]))
    · refine st1 ?_
      have hq : some _ = some _ := hF
      cases hq
      exact en1
    · refine st1 ?_
      obtain ⟨_, h, hF⟩ := e_bind hF
      (first | refine g_call h lv1 ?_ | refine g_callT h lv1 ?_)
      (conv => arg 1; whnf)
      refine st1 ?_
      have hq : some _ = some _ := hF
      cases hq
      exact en1


end Go.Ev
