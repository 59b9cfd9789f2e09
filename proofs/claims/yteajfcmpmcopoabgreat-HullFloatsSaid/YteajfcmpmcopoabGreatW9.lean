/- A part of the proof of HullFloats. -/
import Derived.Test.YteajfcmpmcopoabGreatProg
import Derived.Test.YteajfcmpmcopoabGreatW8
/- The functions do what is said. -/
set_option linter.unusedVariables false
set_option linter.unusedSimpArgs false
namespace Go.Ev
open Go.Proofs
set_option maxHeartbeats 8000000
set_option maxRecDepth 100000
theorem mix : Tryz.prog.follows .mixedOrders = true := by kernel_rfl
@[reducible] noncomputable def c_thalweglaw02_great : Con := conF F_thalweglaw02_great (fun x => match x with | (a0) => [(V.agg (eTHull a0))]) (fun r => (V.v (.bool (r))))
theorem h_thalweglaw02_great : Has Tryz.prog 9 c_thalweglaw02_great := by
  refine hasF ctx_nil mix Tryz.func9 rfl (by kernel_rfl) ?_
  rintro a0 r hF
  refine ⟨of_decide_eq_true rfl, ?_⟩
  refine st1 ?_
  refine st_loopF (e_assoc hF) () [(0, _)] ⟨sT, sS, by rfl, by rfl⟩ ?_
  · rintro n _ _ x hx1 hF
    (conv => arg 7; whnf); (conv => arg 8; whnf); (conv => arg 9; whnf)
    refine st1 ?_
    rcases e_bif hF with ⟨hb8, hF⟩ | ⟨hb8, hF⟩ <;> (first | rw [hb8] | (conv => arg 7; rw [hb8]))
    · refine st1 ?_
      rcases e_bif hF with ⟨hb9, hF⟩ | ⟨hb9, hF⟩ <;> (first | rw [hb9] | (conv => arg 7; rw [hb9]))
      · refine st1 ?_
        obtain ⟨_, h, hF⟩ := e_bind hF
        (first | refine o_ia (enc := eTHullSection) (s := 5) h (fun _ => rfl) (by decide) ?_ | refine o_iaT (enc := eTHullSection) (s := 5) h (fun _ => rfl) (by decide) ?_)
        intro _
        refine st1 ?_
        rcases e_bif hF with ⟨hb10, hF⟩ | ⟨hb10, hF⟩ <;> (first | rw [hb10] | (conv => arg 7; rw [hb10]))
        · refine st1 ?_
          have hF := e_some hF
          have hq : some _ = some _ := hF
          cases hq
          exact en1
        · refine st1 ?_
          obtain ⟨_, h, hF⟩ := e_bind hF
          (first | refine o_ia (enc := eTHullSection) (s := 5) h (fun _ => rfl) (by decide) ?_ | refine o_iaT (enc := eTHullSection) (s := 5) h (fun _ => rfl) (by decide) ?_)
          intro _
          refine st1 ?_
          rcases e_bif hF with ⟨hb11, hF⟩ | ⟨hb11, hF⟩ <;> (first | rw [hb11] | (conv => arg 7; rw [hb11]))
          · refine st1 ?_
            have hF := e_some hF
            have hq : some _ = some _ := hF
            cases hq
            exact en1
          · refine st1 ?_
            exact k_loopF (e_some hF) hx1 () [(0, _)] ⟨sT, sS, by rfl, by rfl⟩
      · refine st1 ?_
        have hF := e_some hF
        have hq : some _ = some _ := hF
        cases hq
        exact en1
    · refine st1 ?_
      have hF := e_some hF
      have hq : some _ = some _ := hF
      cases hq
      exact en1


@[reducible] noncomputable def c_thalweglaw02_own : Con := conF F_thalweglaw02_own (fun x => match x with | (a0) => [(V.agg (eTHull a0))]) (fun r => (V.agg (eTHull r)))
theorem h_thalweglaw02_own : Has Tryz.prog 11 c_thalweglaw02_own := by
  refine hasF ctx_nil mix Tryz.func11 rfl (by kernel_rfl) ?_
  rintro a0 r hF
  refine ⟨of_decide_eq_true rfl, ?_⟩
  refine st1 ?_
  refine st_loopF (e_assoc hF) () [(0, _), (1, _), (5, _)] ⟨sT, sS, by rfl, by rfl⟩ ?_
  · rintro n ⟨_, _⟩ _ x hx1 hF
    (conv => arg 7; whnf); (conv => arg 8; whnf); (conv => arg 9; whnf)
    refine st1 ?_
    rcases e_bif hF with ⟨hb4, hF⟩ | ⟨hb4, hF⟩ <;> (first | rw [hb4] | (conv => arg 7; rw [hb4]))
    · refine st1 ?_
      obtain ⟨_, h, hF⟩ := e_bind hF
      (first | refine o_ia (enc := eTHullSection) (s := 5) h (fun _ => rfl) (by decide) ?_ | refine o_iaT (enc := eTHullSection) (s := 5) h (fun _ => rfl) (by decide) ?_)
      intro _
      refine st1 ?_
      obtain ⟨_, h, hF⟩ := e_bind hF
      (first | refine o_app (enc := eTHullRow) (s := 2) h (fun _ => rfl) ?_ | refine o_appT (enc := eTHullRow) (s := 2) h (fun _ => rfl) ?_)
      refine st1 ?_
      obtain ⟨_, h, hF⟩ := e_bind hF
      (first | refine o_app (enc := eTHullHold) (s := 2) h (fun _ => rfl) ?_ | refine o_appT (enc := eTHullHold) (s := 2) h (fun _ => rfl) ?_)
      refine st1 ?_
      obtain ⟨_, h, hF⟩ := e_bind hF
      (first | refine o_app (enc := eTHullSection) (s := 5) h (fun _ => rfl) ?_ | refine o_appT (enc := eTHullSection) (s := 5) h (fun _ => rfl) ?_)
      refine st1 ?_
      exact k_loopF (e_some hF) hx1 () [(0, _), (1, _), (5, _), (6, _)] ⟨sT, sS, by rfl, by rfl⟩
    · refine st1 ?_
      have hF := e_some hF
      have hq : some _ = some _ := hF
      cases hq
      exact en1


@[reducible] noncomputable def c_thalweglaw02_numbers : Con := conF F_thalweglaw02_numbers (fun x => match x with | (a0) => [(V.sl (recs (eI .i64) (a0)) (a0).length)]) (fun r => (V.sl (recs (eI .i64) (r)) (r).length))
theorem h_thalweglaw02_numbers : Has Tryz.prog 12 c_thalweglaw02_numbers := by
  refine hasF ctx_nil mix Tryz.func12 rfl (by kernel_rfl) ?_
  rintro a0 r hF
  refine ⟨of_decide_eq_true rfl, ?_⟩
  refine st1 ?_
  obtain ⟨_, h, hF⟩ := e_bind hF
  (first | refine o_app (enc := (eI .i64)) (s := 1) h (fun _ => rfl) ?_ | refine o_appT (enc := (eI .i64)) (s := 1) h (fun _ => rfl) ?_)
  refine st1 ?_
  have hq : some _ = some _ := hF
  cases hq
  exact en1


@[reducible] noncomputable def c_numbers_Every_int (C : FuncId → Option Con) : Con := conK F_numbers_Every_int (fun x => match x with | (a0, a1, g, caps) => [(V.sl (recs (eI .i64) (a0)) (a0).length), (V.fn g caps)]) (fun x => match x with | (a0, a1, g, caps) => Callable (ext C []) g caps (fun x => match x with | (q0) => [(V.v (.int .i64 (q0)))]) (fun r => (V.v (.bool (r)))) a1) (fun r => (V.v (.bool (r))))
theorem h_numbers_Every_int {C : FuncId → Option Con} (hC : CtxOK Tryz.prog C) : Has Tryz.prog 86 (c_numbers_Every_int C) := by
  refine hasK (ext_nil hC) mix Tryz.func86 rfl (by kernel_rfl) ?_
  rintro ⟨a0, a1, g, caps⟩ r hcl hF
  obtain ⟨hcaps, c, hc, hce, hcall⟩ := id hcl
  refine ⟨of_decide_eq_true rfl, ?_⟩
  refine st1 ?_
  refine st_loopF (e_assoc hF) () [] ⟨sT, sS, by rfl, by rfl⟩ ?_
  · rintro n _ _ x hx1 hF
    (conv => arg 7; whnf); (conv => arg 8; whnf); (conv => arg 9; whnf)
    refine st1 ?_
    rcases e_bif hF with ⟨hb5, hF⟩ | ⟨hb5, hF⟩ <;> (first | rw [hb5] | (conv => arg 7; rw [hb5]))
    · refine st1 ?_
      obtain ⟨_, h, hF⟩ := e_bind hF
      (first | refine o_ia (enc := (eI .i64)) (s := 1) h (fun _ => rfl) (by decide) ?_ | refine o_iaT (enc := (eI .i64)) (s := 1) h (fun _ => rfl) (by decide) ?_)
      intro _
      refine st1 ?_
      obtain ⟨_, h, hF⟩ := e_bind hF
      rw [hc]
      (conv => arg 1; whnf)
      rw [hce]
      (conv => arg 1; whnf)
      (first | refine go_map hcaps rfl ?_ | refine goT_map hcaps rfl ?_)
      (conv => arg 1; whnf)
      obtain ⟨z, hz1, hz2, hz3⟩ := hcall _ _ h
      (first | refine go_exi z ⟨levs_eq hz1.symm, hz2⟩ ?_ | refine goT_exi z ⟨levs_eq hz1.symm, hz2⟩ ?_)
      rw [hz3]
      (conv => arg 1; whnf)
      refine st1 ?_
      rcases e_bif hF with ⟨hb6, hF⟩ | ⟨hb6, hF⟩ <;> (first | rw [hb6] | (conv => arg 7; rw [hb6]))
      · refine st1 ?_
        have hF := e_some hF
        have hq : some _ = some _ := hF
        cases hq
        exact en1
      · refine st1 ?_
        exact k_loopF (e_some hF) hx1 () [] ⟨sT, sS, by rfl, by rfl⟩
    · refine st1 ?_
      have hF := e_some hF
      have hq : some _ = some _ := hF
      cases hq
      exact en1


@[reducible] noncomputable def c_numbers_Within_1 : Con := conF F_numbers_Within_1 (fun x => match x with | (a0, c0, c1) => [(V.v (.int .i64 (a0))), (V.fptr [(V.v (.int .i64 (c0)))]), (V.fptr [(V.v (.int .i64 (c1)))])]) (fun r => (V.v (.bool (r))))
theorem h_numbers_Within_1 : Has Tryz.prog 87 c_numbers_Within_1 := by
  refine hasF ctx_nil mix Tryz.func87 rfl (by kernel_rfl) ?_
  rintro ⟨a0, c0, c1⟩ r hF
  refine ⟨of_decide_eq_true rfl, ?_⟩
  refine st1 ?_
  rcases e_bif hF with ⟨hb1, hF⟩ | ⟨hb1, hF⟩ <;> (first | rw [hb1] | (conv => arg 7; rw [hb1]))
  · refine st1 ?_
    have hq : some _ = some _ := hF
    cases hq
    exact en1
  · refine st1 ?_
    have hq : some _ = some _ := hF
    cases hq
    exact en1


@[reducible] noncomputable def c_numbers_Within : Con := conF F_numbers_Within (fun x => match x with | (a0, a1, a2) => [(V.v (.int .i64 (a0))), (V.v (.int .i64 (a1))), (V.sl (recs (eI .i64) (a2)) (a2).length)]) (fun r => (V.v (.bool (r))))
theorem h_numbers_Within : Has Tryz.prog 46 c_numbers_Within := by
  refine hasF (ctx_cons (h_numbers_Every_int (ctx_cons h_numbers_Within_1 ctx_nil)) ctx_nil) mix Tryz.func46 rfl (by kernel_rfl) ?_
  rintro ⟨a0, a1, a2⟩ r hF
  refine ⟨of_decide_eq_true rfl, ?_⟩
  refine st1 ?_
  obtain ⟨_, h, hF⟩ := e_bind hF
  (first | refine g_hcall h lv1 (callable_conF rfl rfl (fun _ => rfl)) ?_ | refine g_hcallT h lv1 (callable_conF rfl rfl (fun _ => rfl)) ?_)
  (conv => arg 1; whnf)
  refine st1 ?_
  have hq : some _ = some _ := hF
  cases hq
  exact en1


@[reducible] noncomputable def c_numbers_Every_HullSection (C : FuncId → Option Con) : Con := conK F_numbers_Every_HullSection (fun x => match x with | (a0, a1, g, caps) => [(V.sl (recs eTHullSection (a0)) (a0).length), (V.fn g caps)]) (fun x => match x with | (a0, a1, g, caps) => Callable (ext C []) g caps (fun x => match x with | (q0) => [(V.agg (eTHullSection q0))]) (fun r => (V.v (.bool (r)))) a1) (fun r => (V.v (.bool (r))))
theorem h_numbers_Every_HullSection {C : FuncId → Option Con} (hC : CtxOK Tryz.prog C) : Has Tryz.prog 47 (c_numbers_Every_HullSection C) := by
  refine hasK (ext_nil hC) mix Tryz.func47 rfl (by kernel_rfl) ?_
  rintro ⟨a0, a1, g, caps⟩ r hcl hF
  obtain ⟨hcaps, c, hc, hce, hcall⟩ := id hcl
  refine ⟨of_decide_eq_true rfl, ?_⟩
  refine st1 ?_
  refine st_loopF (e_assoc hF) () [] ⟨sT, sS, by rfl, by rfl⟩ ?_
  · rintro n _ _ x hx1 hF
    (conv => arg 7; whnf); (conv => arg 8; whnf); (conv => arg 9; whnf)
    refine st1 ?_
    rcases e_bif hF with ⟨hb5, hF⟩ | ⟨hb5, hF⟩ <;> (first | rw [hb5] | (conv => arg 7; rw [hb5]))
    · refine st1 ?_
      obtain ⟨_, h, hF⟩ := e_bind hF
      (first | refine o_ia (enc := eTHullSection) (s := 5) h (fun _ => rfl) (by decide) ?_ | refine o_iaT (enc := eTHullSection) (s := 5) h (fun _ => rfl) (by decide) ?_)
      intro _
      refine st1 ?_
      obtain ⟨_, h, hF⟩ := e_bind hF
      rw [hc]
      (conv => arg 1; whnf)
      rw [hce]
      (conv => arg 1; whnf)
      (first | refine go_map hcaps rfl ?_ | refine goT_map hcaps rfl ?_)
      (conv => arg 1; whnf)
      obtain ⟨z, hz1, hz2, hz3⟩ := hcall _ _ h
      (first | refine go_exi z ⟨levs_eq hz1.symm, hz2⟩ ?_ | refine goT_exi z ⟨levs_eq hz1.symm, hz2⟩ ?_)
      rw [hz3]
      (conv => arg 1; whnf)
      refine st1 ?_
      rcases e_bif hF with ⟨hb6, hF⟩ | ⟨hb6, hF⟩ <;> (first | rw [hb6] | (conv => arg 7; rw [hb6]))
      · refine st1 ?_
        have hF := e_some hF
        have hq : some _ = some _ := hF
        cases hq
        exact en1
      · refine st1 ?_
        exact k_loopF (e_some hF) hx1 () [] ⟨sT, sS, by rfl, by rfl⟩
    · refine st1 ?_
      have hF := e_some hF
      have hq : some _ = some _ := hF
      cases hq
      exact en1


@[reducible] noncomputable def c_hull_validCurve : Con := conF F_hull_validCurve (fun x => match x with | (a0) => [(V.sl (recs eTHullRow (a0)) (a0).length)]) (fun r => (V.v (.bool (r))))
theorem fl_hull_validCurve_136 : flatOf Tryz.prog 9 136 = some [true, true] := by kernel_rfl
theorem eg_hull_validCurve_136 : Tryz.prog.eqGuardType Tryz.prog.depth 136 = false := by kernel_rfl
theorem ag_hull_validCurve_136 : aggOf Tryz.prog 136 = some true := by kernel_rfl
theorem h_hull_validCurve : Has Tryz.prog 88 c_hull_validCurve := by
  refine hasF (ctx_cons h_numbers_Within ctx_nil) mix Tryz.func88 rfl (by kernel_rfl) ?_
  rintro a0 r hF
  refine ⟨of_decide_eq_true rfl, ?_⟩
  refine st1 ?_
  obtain ⟨_, h, hF⟩ := e_bind hF
  (first | refine g_call h lv1 ?_ | refine g_callT h lv1 ?_)
  (conv => arg 1; whnf)
  refine st1 ?_
  rcases e_bif hF with ⟨hb1, hF⟩ | ⟨hb1, hF⟩ <;> (first | rw [hb1] | (conv => arg 7; rw [hb1]))
  · refine st1 ?_
    have hq : some _ = some _ := hF
    cases hq
    exact en1
  · refine st1 ?_
    obtain ⟨_, h, hF⟩ := e_bind hF
    (first | refine o_ia (enc := eTHullRow) (s := 2) h (fun _ => rfl) (by decide) ?_ | refine o_iaT (enc := eTHullRow) (s := 2) h (fun _ => rfl) (by decide) ?_)
    intro _
    refine st1 ?_
    rw [fl_hull_validCurve_136, eg_hull_validCurve_136, ag_hull_validCurve_136]
    (conv => arg 1; whnf)
    refine st1 ?_
    rcases e_bif hF with ⟨hb2, hF⟩ | ⟨hb2, hF⟩ <;> (first | rw [hb2] | (conv => arg 7; rw [hb2]))
    · refine st1 ?_
      have hq : some _ = some _ := hF
      cases hq
      exact en1
    · refine st1 ?_
      refine st_loopF (e_assoc hF) () [] ⟨sT, sS, by rfl, by rfl⟩ ?_
      · rintro n _ _ x hx1 hF
        (conv => arg 7; whnf); (conv => arg 8; whnf); (conv => arg 9; whnf)
        refine st1 ?_
        rcases e_bif hF with ⟨hb9, hF⟩ | ⟨hb9, hF⟩ <;> (first | rw [hb9] | (conv => arg 7; rw [hb9]))
        · refine st1 ?_
          obtain ⟨_, h, hF⟩ := e_bind hF
          (first | refine o_ia (enc := eTHullRow) (s := 2) h (fun _ => rfl) (by decide) ?_ | refine o_iaT (enc := eTHullRow) (s := 2) h (fun _ => rfl) (by decide) ?_)
          intro _
          refine st1 ?_
          obtain ⟨_, h, hF⟩ := e_bind hF
          (first | refine o_ia (enc := eTHullRow) (s := 2) h (fun _ => rfl) (by decide) ?_ | refine o_iaT (enc := eTHullRow) (s := 2) h (fun _ => rfl) (by decide) ?_)
          intro _
          refine st1 ?_
          rcases e_bif hF with ⟨hb10, hF⟩ | ⟨hb10, hF⟩ <;> (first | rw [hb10] | (conv => arg 7; rw [hb10]))
          · refine st1 ?_
            have hF := e_some hF
            have hq : some _ = some _ := hF
            cases hq
            exact en1
          · refine st1 ?_
            obtain ⟨_, h, hF⟩ := e_bind hF
            (first | refine o_ia (enc := eTHullRow) (s := 2) h (fun _ => rfl) (by decide) ?_ | refine o_iaT (enc := eTHullRow) (s := 2) h (fun _ => rfl) (by decide) ?_)
            intro _
            refine st1 ?_
            obtain ⟨_, h, hF⟩ := e_bind hF
            (first | refine o_ia (enc := eTHullRow) (s := 2) h (fun _ => rfl) (by decide) ?_ | refine o_iaT (enc := eTHullRow) (s := 2) h (fun _ => rfl) (by decide) ?_)
            intro _
            refine st1 ?_
            rcases e_bif hF with ⟨hb11, hF⟩ | ⟨hb11, hF⟩ <;> (first | rw [hb11] | (conv => arg 7; rw [hb11]))
            · refine st1 ?_
              have hF := e_some hF
              have hq : some _ = some _ := hF
              cases hq
              exact en1
            · refine st1 ?_
              exact k_loopF (e_some hF) hx1 () [] ⟨sT, sS, by rfl, by rfl⟩
        · refine st1 ?_
          have hF := e_some hF
          obtain ⟨_, h, hF⟩ := e_bind hF
          (first | refine o_ia (enc := eTHullRow) (s := 2) h (fun _ => rfl) (by decide) ?_ | refine o_iaT (enc := eTHullRow) (s := 2) h (fun _ => rfl) (by decide) ?_)
          intro _
          refine st1 ?_
          rcases e_bif hF with ⟨hb12, hF⟩ | ⟨hb12, hF⟩ <;> (first | rw [hb12] | (conv => arg 7; rw [hb12]))
          · refine st1 ?_
            have hq : some _ = some _ := hF
            cases hq
            exact en1
          · refine st1 ?_
            have hq : some _ = some _ := hF
            cases hq
            exact en1


@[reducible] noncomputable def c_numbers_Every_HullHold (C : FuncId → Option Con) : Con := conK F_numbers_Every_HullHold (fun x => match x with | (a0, a1, g, caps) => [(V.sl (recs eTHullHold (a0)) (a0).length), (V.fn g caps)]) (fun x => match x with | (a0, a1, g, caps) => Callable (ext C []) g caps (fun x => match x with | (q0) => [(V.agg (eTHullHold q0))]) (fun r => (V.v (.bool (r)))) a1) (fun r => (V.v (.bool (r))))
theorem h_numbers_Every_HullHold {C : FuncId → Option Con} (hC : CtxOK Tryz.prog C) : Has Tryz.prog 89 (c_numbers_Every_HullHold C) := by
  refine hasK (ext_nil hC) mix Tryz.func89 rfl (by kernel_rfl) ?_
  rintro ⟨a0, a1, g, caps⟩ r hcl hF
  obtain ⟨hcaps, c, hc, hce, hcall⟩ := id hcl
  refine ⟨of_decide_eq_true rfl, ?_⟩
  refine st1 ?_
  refine st_loopF (e_assoc hF) () [] ⟨sT, sS, by rfl, by rfl⟩ ?_
  · rintro n _ _ x hx1 hF
    (conv => arg 7; whnf); (conv => arg 8; whnf); (conv => arg 9; whnf)
    refine st1 ?_
    rcases e_bif hF with ⟨hb5, hF⟩ | ⟨hb5, hF⟩ <;> (first | rw [hb5] | (conv => arg 7; rw [hb5]))
    · refine st1 ?_
      obtain ⟨_, h, hF⟩ := e_bind hF
      (first | refine o_ia (enc := eTHullHold) (s := 2) h (fun _ => rfl) (by decide) ?_ | refine o_iaT (enc := eTHullHold) (s := 2) h (fun _ => rfl) (by decide) ?_)
      intro _
      refine st1 ?_
      obtain ⟨_, h, hF⟩ := e_bind hF
      rw [hc]
      (conv => arg 1; whnf)
      rw [hce]
      (conv => arg 1; whnf)
      (first | refine go_map hcaps rfl ?_ | refine goT_map hcaps rfl ?_)
      (conv => arg 1; whnf)
      obtain ⟨z, hz1, hz2, hz3⟩ := hcall _ _ h
      (first | refine go_exi z ⟨levs_eq hz1.symm, hz2⟩ ?_ | refine goT_exi z ⟨levs_eq hz1.symm, hz2⟩ ?_)
      rw [hz3]
      (conv => arg 1; whnf)
      refine st1 ?_
      rcases e_bif hF with ⟨hb6, hF⟩ | ⟨hb6, hF⟩ <;> (first | rw [hb6] | (conv => arg 7; rw [hb6]))
      · refine st1 ?_
        have hF := e_some hF
        have hq : some _ = some _ := hF
        cases hq
        exact en1
      · refine st1 ?_
        exact k_loopF (e_some hF) hx1 () [] ⟨sT, sS, by rfl, by rfl⟩
    · refine st1 ?_
      have hF := e_some hF
      have hq : some _ = some _ := hF
      cases hq
      exact en1


@[reducible] noncomputable def c_hull_validSection_1 : Con := conF F_hull_validSection_1 (fun x => match x with | (a0, c0) => [(V.agg (eTHullHold a0)), (V.fptr [(V.v (.int .i64 (c0.Length))), (V.v (.int .i64 (c0.Light))), (V.v (.int .i64 (c0.Trim))), (V.sl (recs eTHullRow (c0.Curve)) (c0.Curve).length), (V.sl (recs eTHullHold (c0.Holds)) (c0.Holds).length)])]) (fun r => (V.v (.bool (r))))
theorem h_hull_validSection_1 : Has Tryz.prog 90 c_hull_validSection_1 := by
  refine hasF (ctx_cons h_numbers_Within ctx_nil) mix Tryz.func90 rfl (by kernel_rfl) ?_
  rintro ⟨a0, c0⟩ r hF
  refine ⟨of_decide_eq_true rfl, ?_⟩
  refine st1 ?_
  obtain ⟨_, h, hF⟩ := e_bind hF
  (first | refine g_call h lv1 ?_ | refine g_callT h lv1 ?_)
  (conv => arg 1; whnf)
  refine st1 ?_
  rcases e_bif hF with ⟨hb1, hF⟩ | ⟨hb1, hF⟩ <;> (first | rw [hb1] | (conv => arg 7; rw [hb1]))
  · refine st1 ?_
    obtain ⟨_, h, hF⟩ := e_bind hF
    (first | refine g_call h lv1 ?_ | refine g_callT h lv1 ?_)
    (conv => arg 1; whnf)
    refine st1 ?_
    have hq : some _ = some _ := hF
    cases hq
    exact en1
  · refine st1 ?_
    have hq : some _ = some _ := hF
    cases hq
    exact en1


@[reducible] noncomputable def c_hull_validSection : Con := conF F_hull_validSection (fun x => match x with | (a0) => [(V.agg (eTHullSection a0))]) (fun r => (V.v (.bool (r))))
theorem h_hull_validSection : Has Tryz.prog 48 c_hull_validSection := by
  refine hasF (ctx_cons (h_numbers_Every_HullHold (ctx_cons h_hull_validSection_1 ctx_nil)) (ctx_cons h_hull_validCurve (ctx_cons h_numbers_Within ctx_nil))) mix Tryz.func48 rfl (by kernel_rfl) ?_
  rintro a0 r hF
  refine ⟨of_decide_eq_true rfl, ?_⟩
  refine st1 ?_
  obtain ⟨_, h, hF⟩ := e_bind hF
  (first | refine g_call h lv1 ?_ | refine g_callT h lv1 ?_)
  (conv => arg 1; whnf)
  refine st1 ?_
  rcases e_bif hF with ⟨hb1, hF⟩ | ⟨hb1, hF⟩ <;> (first | rw [hb1] | (conv => arg 7; rw [hb1]))
  · refine st1 ?_
    obtain ⟨_, h, hF⟩ := e_bind hF
    (first | refine g_call h lv1 ?_ | refine g_callT h lv1 ?_)
    (conv => arg 1; whnf)
    refine st1 ?_
    rcases e_bif hF with ⟨hb2, hF⟩ | ⟨hb2, hF⟩ <;> (first | rw [hb2] | (conv => arg 7; rw [hb2]))
    · refine st1 ?_
      obtain ⟨_, h, hF⟩ := e_bind hF
      (first | refine g_call h lv1 ?_ | refine g_callT h lv1 ?_)
      (conv => arg 1; whnf)
      refine st1 ?_
      rcases e_bif hF with ⟨hb3, hF⟩ | ⟨hb3, hF⟩ <;> (first | rw [hb3] | (conv => arg 7; rw [hb3]))
      · refine st1 ?_
        obtain ⟨_, h, hF⟩ := e_bind hF
        (first | refine g_call h lv1 ?_ | refine g_callT h lv1 ?_)
        (conv => arg 1; whnf)
        refine st1 ?_
        rcases e_bif hF with ⟨hb4, hF⟩ | ⟨hb4, hF⟩ <;> (first | rw [hb4] | (conv => arg 7; rw [hb4]))
        · refine st1 ?_
          obtain ⟨_, h, hF⟩ := e_bind hF
          (first | refine g_hcall h lv1 (callable_conF rfl rfl (fun _ => rfl)) ?_ | refine g_hcallT h lv1 (callable_conF rfl rfl (fun _ => rfl)) ?_)
          (conv => arg 1; whnf)
          refine st1 ?_
          have hq : some _ = some _ := hF
          cases hq
          exact en1
        · refine st1 ?_
          have hq : some _ = some _ := hF
          cases hq
          exact en1
      · refine st1 ?_
        have hq : some _ = some _ := hF
        cases hq
        exact en1
    · refine st1 ?_
      have hq : some _ = some _ := hF
      cases hq
      exact en1
  · refine st1 ?_
    have hq : some _ = some _ := hF
    cases hq
    exact en1


@[reducible] noncomputable def c_hull_length : Con := conF F_hull_length (fun x => match x with | (a0) => [(V.sl (recs eTHullSection (a0)) (a0).length)]) (fun r => (V.v (.int .i64 (r))))
theorem h_hull_length : Has Tryz.prog 49 c_hull_length := by
  refine hasF ctx_nil mix Tryz.func49 rfl (by kernel_rfl) ?_
  rintro a0 r hF
  refine ⟨of_decide_eq_true rfl, ?_⟩
  refine st1 ?_
  refine st_loopF (e_assoc hF) () [] ⟨sT, sS, by rfl, by rfl⟩ ?_
  · rintro n ⟨_, _⟩ _ x hx1 hF
    (conv => arg 7; whnf); (conv => arg 8; whnf); (conv => arg 9; whnf)
    refine st1 ?_
    rcases e_bif hF with ⟨hb3, hF⟩ | ⟨hb3, hF⟩ <;> (first | rw [hb3] | (conv => arg 7; rw [hb3]))
    · refine st1 ?_
      obtain ⟨_, h, hF⟩ := e_bind hF
      (first | refine o_ia (enc := eTHullSection) (s := 5) h (fun _ => rfl) (by decide) ?_ | refine o_iaT (enc := eTHullSection) (s := 5) h (fun _ => rfl) (by decide) ?_)
      intro _
      refine st1 ?_
      exact k_loopF (e_some hF) hx1 () [] ⟨sT, sS, by rfl, by rfl⟩
    · refine st1 ?_
      have hF := e_some hF
      have hq : some _ = some _ := hF
      cases hq
      exact en1


@[reducible] noncomputable def c_hull_holds : Con := conF F_hull_holds (fun x => match x with | (a0) => [(V.sl (recs eTHullSection (a0)) (a0).length)]) (fun r => (V.v (.int .i64 (r))))
theorem h_hull_holds : Has Tryz.prog 50 c_hull_holds := by
  refine hasF ctx_nil mix Tryz.func50 rfl (by kernel_rfl) ?_
  rintro a0 r hF
  refine ⟨of_decide_eq_true rfl, ?_⟩
  refine st1 ?_
  refine st_loopF (e_assoc hF) () [] ⟨sT, sS, by rfl, by rfl⟩ ?_
  · rintro n ⟨_, _⟩ _ x hx1 hF
    (conv => arg 7; whnf); (conv => arg 8; whnf); (conv => arg 9; whnf)
    refine st1 ?_
    rcases e_bif hF with ⟨hb3, hF⟩ | ⟨hb3, hF⟩ <;> (first | rw [hb3] | (conv => arg 7; rw [hb3]))
    · refine st1 ?_
      obtain ⟨_, h, hF⟩ := e_bind hF
      (first | refine o_ia (enc := eTHullSection) (s := 5) h (fun _ => rfl) (by decide) ?_ | refine o_iaT (enc := eTHullSection) (s := 5) h (fun _ => rfl) (by decide) ?_)
      intro _
      refine st1 ?_
      exact k_loopF (e_some hF) hx1 () [] ⟨sT, sS, by rfl, by rfl⟩
    · refine st1 ?_
      have hF := e_some hF
      have hq : some _ = some _ := hF
      cases hq
      exact en1


@[reducible] noncomputable def c_hull_Check : Con := conF F_hull_Check (fun x => match x with | (a0) => [(V.agg (eTHull a0))]) (fun r => (V.v (.int .i64 (r))))
theorem h_hull_Check : Has Tryz.prog 13 c_hull_Check := by
  refine hasF (ctx_cons (h_numbers_Every_HullSection (ctx_cons h_hull_validSection ctx_nil)) (ctx_cons h_hull_holds (ctx_cons h_hull_length (ctx_cons h_numbers_Within ctx_nil)))) mix Tryz.func13 rfl (by kernel_rfl) ?_
  rintro a0 r hF
  refine ⟨of_decide_eq_true rfl, ?_⟩
  refine st1 ?_
  obtain ⟨_, h, hF⟩ := e_bind hF
  (first | refine g_call h lv1 ?_ | refine g_callT h lv1 ?_)
  (conv => arg 1; whnf)
  refine st1 ?_
  rcases e_bif hF with ⟨hb1, hF⟩ | ⟨hb1, hF⟩ <;> (first | rw [hb1] | (conv => arg 7; rw [hb1]))
  · refine st1 ?_
    have hq : some _ = some _ := hF
    cases hq
    exact en1
  · refine st1 ?_
    obtain ⟨_, h, hF⟩ := e_bind hF
    (first | refine g_call h lv1 ?_ | refine g_callT h lv1 ?_)
    (conv => arg 1; whnf)
    refine st1 ?_
    rcases e_bif hF with ⟨hb2, hF⟩ | ⟨hb2, hF⟩ <;> (first | rw [hb2] | (conv => arg 7; rw [hb2]))
    · refine st1 ?_
      have hq : some _ = some _ := hF
      cases hq
      exact en1
    · refine st1 ?_
      obtain ⟨_, h, hF⟩ := e_bind hF
      (first | refine g_hcall h lv1 (callable_conF rfl rfl (fun _ => rfl)) ?_ | refine g_hcallT h lv1 (callable_conF rfl rfl (fun _ => rfl)) ?_)
      (conv => arg 1; whnf)
      refine st1 ?_
      rcases e_bif hF with ⟨hb3, hF⟩ | ⟨hb3, hF⟩ <;> (first | rw [hb3] | (conv => arg 7; rw [hb3]))
      · refine st1 ?_
        have hq : some _ = some _ := hF
        cases hq
        exact en1
      · refine st1 ?_
        obtain ⟨_, h, hF⟩ := e_bind hF
        (first | refine g_call h lv1 ?_ | refine g_callT h lv1 ?_)
        (conv => arg 1; whnf)
        refine st1 ?_
        rcases e_bif hF with ⟨hb4, hF⟩ | ⟨hb4, hF⟩ <;> (first | rw [hb4] | (conv => arg 7; rw [hb4]))
        · refine st1 ?_
          have hq : some _ = some _ := hF
          cases hq
          exact en1
        · refine st1 ?_
          obtain ⟨_, h, hF⟩ := e_bind hF
          (first | refine g_call h lv1 ?_ | refine g_callT h lv1 ?_)
          (conv => arg 1; whnf)
          refine st1 ?_
          rcases e_bif hF with ⟨hb5, hF⟩ | ⟨hb5, hF⟩ <;> (first | rw [hb5] | (conv => arg 7; rw [hb5]))
          · refine st1 ?_
            have hq : some _ = some _ := hF
            cases hq
            exact en1
          · refine st1 ?_
            have hq : some _ = some _ := hF
            cases hq
            exact en1


@[reducible] noncomputable def c_hull_launch : Con := conF F_hull_launch (fun x => match x with | (a0) => [(V.agg (eTHull a0))]) (fun r => V.tup [(V.agg (eThull_ship r.1)), (V.v (.int .i64 (r.2)))])
theorem h_hull_launch : Has Tryz.prog 51 c_hull_launch := by
  refine hasF (ctx_cons h_hull_length (ctx_cons h_hull_Check ctx_nil)) mix Tryz.func51 rfl (by kernel_rfl) ?_
  rintro a0 r hF
  refine ⟨of_decide_eq_true rfl, ?_⟩
  refine st1 ?_
  obtain ⟨_, h, hF⟩ := e_bind hF
  (first | refine g_call h lv1 ?_ | refine g_callT h lv1 ?_)
  (conv => arg 1; whnf)
  refine st1 ?_
  rcases e_bif hF with ⟨hb1, hF⟩ | ⟨hb1, hF⟩ <;> (first | rw [hb1] | (conv => arg 7; rw [hb1]))
  · refine st1 ?_
    have hq : some _ = some _ := hF
    cases hq
    exact en1
  · refine st1 ?_
    obtain ⟨_, h, hF⟩ := e_bind hF
    (first | refine g_call h lv1 ?_ | refine g_callT h lv1 ?_)
    (conv => arg 1; whnf)
    refine st1 ?_
    refine st_loopF (e_assoc hF) () [(1, _), (10, _)] ⟨sT, sS, by rfl, by rfl⟩ ?_
    · rintro n ⟨_, _, _, _, _, _, _⟩ _ x hx1 hF
      (conv => arg 7; whnf); (conv => arg 8; whnf); (conv => arg 9; whnf)
      refine st1 ?_
      rcases e_bif hF with ⟨hb15, hF⟩ | ⟨hb15, hF⟩ <;> (first | rw [hb15] | (conv => arg 7; rw [hb15]))
      · refine st1 ?_
        obtain ⟨_, h, hF⟩ := e_bind hF
        (first | refine o_ia (enc := eTHullSection) (s := 5) h (fun _ => rfl) (by decide) ?_ | refine o_iaT (enc := eTHullSection) (s := 5) h (fun _ => rfl) (by decide) ?_)
        intro _
        refine st1 ?_
        obtain ⟨_, h, hF⟩ := e_bind hF
        (first | refine o_ia (enc := eTHullRow) (s := 2) h (fun _ => rfl) (by decide) ?_ | refine o_iaT (enc := eTHullRow) (s := 2) h (fun _ => rfl) (by decide) ?_)
        intro _
        refine st1 ?_
        refine st_loopF (e_assoc hF) () [(1, _), (10, _), (11, _), (15, _)] ⟨sT, sS, by rfl, by rfl⟩ ?_
        · rintro n ⟨_, _⟩ _ x hx2 hF
          (conv => arg 7; whnf); (conv => arg 8; whnf); (conv => arg 9; whnf)
          refine st1 ?_
          rcases e_bif hF with ⟨hb18, hF⟩ | ⟨hb18, hF⟩ <;> (first | rw [hb18] | (conv => arg 7; rw [hb18]))
          · refine st1 ?_
            obtain ⟨_, h, hF⟩ := e_bind hF
            (first | refine o_ia (enc := eTHullHold) (s := 2) h (fun _ => rfl) (by decide) ?_ | refine o_iaT (enc := eTHullHold) (s := 2) h (fun _ => rfl) (by decide) ?_)
            intro _
            refine st1 ?_
            obtain ⟨_, h, hF⟩ := e_bind hF
            (first | refine o_app (enc := eThull_hold) (s := 3) h (fun _ => rfl) ?_ | refine o_appT (enc := eThull_hold) (s := 3) h (fun _ => rfl) ?_)
            refine st1 ?_
            exact k_loopF (e_some hF) hx2 () [(1, _), (10, _), (11, _), (15, _)] ⟨sT, sS, by rfl, by rfl⟩
          · refine st1 ?_
            have hF := e_some hF
            exact k_loopF (e_some hF) hx1 () [(1, _), (10, _), (11, _)] ⟨sT, sS, by rfl, by rfl⟩
      · refine st1 ?_
        have hF := e_some hF
        have hq : some _ = some _ := hF
        cases hq
        exact en1


@[reducible] noncomputable def c_slices_IndexFunc_L_HullRow_HullRow (C : FuncId → Option Con) : Con := conK F_slices_IndexFunc_L_HullRow_HullRow (fun x => match x with | (a0, a1, g, caps) => [(V.sl (recs eTHullRow (a0)) (a0).length), (V.fn g caps)]) (fun x => match x with | (a0, a1, g, caps) => Callable (ext C []) g caps (fun x => match x with | (q0) => [(V.agg (eTHullRow q0))]) (fun r => (V.v (.bool (r)))) a1) (fun r => (V.v (.int .i64 (r))))
theorem h_slices_IndexFunc_L_HullRow_HullRow {C : FuncId → Option Con} (hC : CtxOK Tryz.prog C) : Has Tryz.prog 116 (c_slices_IndexFunc_L_HullRow_HullRow C) := by
  refine hasK (ext_nil hC) mix Tryz.func116 rfl (by kernel_rfl) ?_
  rintro ⟨a0, a1, g, caps⟩ r hcl hF
  obtain ⟨hcaps, c, hc, hce, hcall⟩ := id hcl
  refine ⟨of_decide_eq_true rfl, ?_⟩
  refine st1 ?_
  refine st_loopF (e_assoc hF) () [] ⟨sT, sS, by rfl, by rfl⟩ ?_
  · rintro n _ _ x hx1 hF
    (conv => arg 7; whnf); (conv => arg 8; whnf); (conv => arg 9; whnf)
    refine st1 ?_
    rcases e_bif hF with ⟨hb5, hF⟩ | ⟨hb5, hF⟩ <;> (first | rw [hb5] | (conv => arg 7; rw [hb5]))
    · refine st1 ?_
      obtain ⟨_, h, hF⟩ := e_bind hF
      (first | refine o_ia (enc := eTHullRow) (s := 2) h (fun _ => rfl) (by decide) ?_ | refine o_iaT (enc := eTHullRow) (s := 2) h (fun _ => rfl) (by decide) ?_)
      intro _
      refine st1 ?_
      obtain ⟨_, h, hF⟩ := e_bind hF
      rw [hc]
      (conv => arg 1; whnf)
      rw [hce]
      (conv => arg 1; whnf)
      (first | refine go_map hcaps rfl ?_ | refine goT_map hcaps rfl ?_)
      (conv => arg 1; whnf)
      obtain ⟨z, hz1, hz2, hz3⟩ := hcall _ _ h
      (first | refine go_exi z ⟨levs_eq hz1.symm, hz2⟩ ?_ | refine goT_exi z ⟨levs_eq hz1.symm, hz2⟩ ?_)
      rw [hz3]
      (conv => arg 1; whnf)
      refine st1 ?_
      rcases e_bif hF with ⟨hb6, hF⟩ | ⟨hb6, hF⟩ <;> (first | rw [hb6] | (conv => arg 7; rw [hb6]))
      · refine st1 ?_
        have hF := e_some hF
        have hq : some _ = some _ := hF
        cases hq
        exact en1
      · refine st1 ?_
        exact k_loopF (e_some hF) hx1 () [] ⟨sT, sS, by rfl, by rfl⟩
    · refine st1 ?_
      have hF := e_some hF
      have hq : some _ = some _ := hF
      cases hq
      exact en1


@[reducible] noncomputable def c_hull_curveAt_1 : Con := conF F_hull_curveAt_1 (fun x => match x with | (a0, c0) => [(V.agg (eTHullRow a0)), (V.fptr [(V.v (.int .i64 (c0)))])]) (fun r => (V.v (.bool (r))))
theorem h_hull_curveAt_1 : Has Tryz.prog 117 c_hull_curveAt_1 := by
  refine hasF ctx_nil mix Tryz.func117 rfl (by kernel_rfl) ?_
  rintro ⟨a0, c0⟩ r hF
  refine ⟨of_decide_eq_true rfl, ?_⟩
  refine st1 ?_
  have hq : some _ = some _ := hF
  cases hq
  exact en1


@[reducible] noncomputable def c_hull_curveAt : Con := conF F_hull_curveAt (fun x => match x with | (a0, a1) => [(V.sl (recs eTHullRow (a0)) (a0).length), (V.v (.int .i64 (a1)))]) (fun r => (V.v (.int .i64 (r))))
theorem h_hull_curveAt : Has Tryz.prog 91 c_hull_curveAt := by
  refine hasF (ctx_cons (h_slices_IndexFunc_L_HullRow_HullRow (ctx_cons h_hull_curveAt_1 ctx_nil)) ctx_nil) mix Tryz.func91 rfl (by kernel_rfl) ?_
  rintro ⟨a0, a1⟩ r hF
  refine ⟨of_decide_eq_true rfl, ?_⟩
  refine st1 ?_
  obtain ⟨_, h, hF⟩ := e_bind hF
  (first | refine o_slc (enc := eTHullRow) (s := 2) h (fun _ => rfl) ?_ | refine o_slcT (enc := eTHullRow) (s := 2) h (fun _ => rfl) ?_)
  refine st1 ?_
  obtain ⟨_, h, hF⟩ := e_bind hF
  (first | refine g_hcall h lv1 (callable_conF rfl rfl (fun _ => rfl)) ?_ | refine g_hcallT h lv1 (callable_conF rfl rfl (fun _ => rfl)) ?_)
  (conv => arg 1; whnf)
  refine st1 ?_
  obtain ⟨_, h, hF⟩ := e_bind hF
  (first | refine o_ia (enc := eTHullRow) (s := 2) h (fun _ => rfl) (by decide) ?_ | refine o_iaT (enc := eTHullRow) (s := 2) h (fun _ => rfl) (by decide) ?_)
  intro _
  refine st1 ?_
  obtain ⟨_, h, hF⟩ := e_bind hF
  (first | refine o_ia (enc := eTHullRow) (s := 2) h (fun _ => rfl) (by decide) ?_ | refine o_iaT (enc := eTHullRow) (s := 2) h (fun _ => rfl) (by decide) ?_)
  intro _
  refine st1 ?_
  obtain ⟨_, h, hF⟩ := e_bind hF
  (first | refine go_req (nz_ne h) ?_ | refine goT_req (nz_ne h) ?_)
  (conv => arg 1; whnf)
  refine st1 ?_
  have hq : some _ = some _ := hF
  cases hq
  exact en1


@[reducible] noncomputable def c_hull_ship_volume : Con := conF F_hull_ship_volume (fun x => match x with | (a0, a1) => [(V.agg (eThull_ship a0)), (V.v (.int .i64 (a1)))]) (fun r => (V.v (.int .i64 (r))))
theorem h_hull_ship_volume : Has Tryz.prog 52 c_hull_ship_volume := by
  refine hasF (ctx_cons h_hull_curveAt ctx_nil) mix Tryz.func52 rfl (by kernel_rfl) ?_
  rintro ⟨a0, a1⟩ r hF
  refine ⟨of_decide_eq_true rfl, ?_⟩
  refine st1 ?_
  refine st_loopF (e_assoc hF) () [] ⟨sT, sS, by rfl, by rfl⟩ ?_
  · rintro n ⟨_, _⟩ _ x hx1 hF
    (conv => arg 7; whnf); (conv => arg 8; whnf); (conv => arg 9; whnf)
    refine st1 ?_
    rcases e_bif hF with ⟨hb3, hF⟩ | ⟨hb3, hF⟩ <;> (first | rw [hb3] | (conv => arg 7; rw [hb3]))
    · refine st1 ?_
      obtain ⟨_, h, hF⟩ := e_bind hF
      (first | refine o_ia (enc := eTHullSection) (s := 5) h (fun _ => rfl) (by decide) ?_ | refine o_iaT (enc := eTHullSection) (s := 5) h (fun _ => rfl) (by decide) ?_)
      intro _
      refine st1 ?_
      obtain ⟨_, h, hF⟩ := e_bind hF
      (first | refine g_call h lv1 ?_ | refine g_callT h lv1 ?_)
      (conv => arg 1; whnf)
      refine st1 ?_
      exact k_loopF (e_some hF) hx1 () [] ⟨sT, sS, by rfl, by rfl⟩
    · refine st1 ?_
      have hF := e_some hF
      have hq : some _ = some _ := hF
      cases hq
      exact en1


@[reducible] noncomputable def c_hull_Volume : Con := conF F_hull_Volume (fun x => match x with | (a0, a1) => [(V.agg (eTHull a0)), (V.v (.int .i64 (a1)))]) (fun r => V.tup [(V.v (.int .i64 (r.1))), (V.v (.int .i64 (r.2)))])
theorem h_hull_Volume : Has Tryz.prog 14 c_hull_Volume := by
  refine hasF (ctx_cons h_hull_ship_volume (ctx_cons h_hull_launch (ctx_cons h_numbers_Within ctx_nil))) mix Tryz.func14 rfl (by kernel_rfl) ?_
  rintro ⟨a0, a1⟩ r hF
  refine ⟨of_decide_eq_true rfl, ?_⟩
  refine st1 ?_
  obtain ⟨_, h, hF⟩ := e_bind hF
  (first | refine g_call h lv1 ?_ | refine g_callT h lv1 ?_)
  (conv => arg 1; whnf)
  refine st1 ?_
  rcases e_bif hF with ⟨hb1, hF⟩ | ⟨hb1, hF⟩ <;> (first | rw [hb1] | (conv => arg 7; rw [hb1]))
  · refine st1 ?_
    have hq : some _ = some _ := hF
    cases hq
    exact en1
  · refine st1 ?_
    obtain ⟨_, h, hF⟩ := e_bind hF
    (first | refine g_call h lv1 ?_ | refine g_callT h lv1 ?_)
    (conv => arg 1; whnf)
    refine st1 ?_
    rcases e_bif hF with ⟨hb2, hF⟩ | ⟨hb2, hF⟩ <;> (first | rw [hb2] | (conv => arg 7; rw [hb2]))
    · refine st1 ?_
      have hq : some _ = some _ := hF
      cases hq
      exact en1
    · refine st1 ?_
      obtain ⟨_, h, hF⟩ := e_bind hF
      (first | refine g_call h lv1 ?_ | refine g_callT h lv1 ?_)
      (conv => arg 1; whnf)
      refine st1 ?_
      have hq : some _ = some _ := hF
      cases hq
      exact en1


@[reducible] noncomputable def c_hull_ship_checkLoad : Con := conF F_hull_ship_checkLoad (fun x => match x with | (a0, a1) => [(V.agg (eThull_ship a0)), (V.sl (recs (eI .i64) (a1)) (a1).length)]) (fun r => (V.v (.int .i64 (r))))
theorem h_hull_ship_checkLoad : Has Tryz.prog 53 c_hull_ship_checkLoad := by
  refine hasF (ctx_cons h_numbers_Within ctx_nil) mix Tryz.func53 rfl (by kernel_rfl) ?_
  rintro ⟨a0, a1⟩ r hF
  refine ⟨of_decide_eq_true rfl, ?_⟩
  refine st1 ?_
  rcases e_bif hF with ⟨hb1, hF⟩ | ⟨hb1, hF⟩ <;> (first | rw [hb1] | (conv => arg 7; rw [hb1]))
  · refine st1 ?_
    have hq : some _ = some _ := hF
    cases hq
    exact en1
  · refine st1 ?_
    refine st_loopF (e_assoc hF) () [(0, _)] ⟨sT, sS, by rfl, by rfl⟩ ?_
    · rintro n _ _ x hx1 hF
      (conv => arg 7; whnf); (conv => arg 8; whnf); (conv => arg 9; whnf)
      refine st1 ?_
      rcases e_bif hF with ⟨hb6, hF⟩ | ⟨hb6, hF⟩ <;> (first | rw [hb6] | (conv => arg 7; rw [hb6]))
      · refine st1 ?_
        obtain ⟨_, h, hF⟩ := e_bind hF
        (first | refine o_ia (enc := (eI .i64)) (s := 1) h (fun _ => rfl) (by decide) ?_ | refine o_iaT (enc := (eI .i64)) (s := 1) h (fun _ => rfl) (by decide) ?_)
        intro _
        refine st1 ?_
        obtain ⟨_, h, hF⟩ := e_bind hF
        (first | refine o_ia (enc := eThull_hold) (s := 3) h (fun _ => rfl) (by decide) ?_ | refine o_iaT (enc := eThull_hold) (s := 3) h (fun _ => rfl) (by decide) ?_)
        intro _
        refine st1 ?_
        obtain ⟨_, h, hF⟩ := e_bind hF
        (first | refine g_call h lv1 ?_ | refine g_callT h lv1 ?_)
        (conv => arg 1; whnf)
        refine st1 ?_
        rcases e_bif hF with ⟨hb7, hF⟩ | ⟨hb7, hF⟩ <;> (first | rw [hb7] | (conv => arg 7; rw [hb7]))
        · refine st1 ?_
          have hF := e_some hF
          have hq : some _ = some _ := hF
          cases hq
          exact en1
        · refine st1 ?_
          exact k_loopF (e_some hF) hx1 () [(0, _)] ⟨sT, sS, by rfl, by rfl⟩
      · refine st1 ?_
        have hF := e_some hF
        have hq : some _ = some _ := hF
        cases hq
        exact en1


@[reducible] noncomputable def c_numbers_Valid : Con := conF F_numbers_Valid (fun x => match x with | (a0, a1, a2) => [(V.agg (eTBounds a0)), (V.v (.int .i64 (a1))), (V.v (.int .i64 (a2)))]) (fun r => (V.v (.bool (r))))
theorem h_numbers_Valid : Has Tryz.prog 84 c_numbers_Valid := by
  refine hasF (ctx_cons h_numbers_Within ctx_nil) mix Tryz.func84 rfl (by kernel_rfl) ?_
  rintro ⟨a0, a1, a2⟩ r hF
  refine ⟨of_decide_eq_true rfl, ?_⟩
  refine st1 ?_
  rcases e_bif hF with ⟨hb1, hF⟩ | ⟨hb1, hF⟩ <;> (first | rw [hb1] | (conv => arg 7; rw [hb1]))
  · refine st1 ?_
    obtain ⟨_, h, hF⟩ := e_bind hF
    (first | refine g_call h lv1 ?_ | refine g_callT h lv1 ?_)
    (conv => arg 1; whnf)
    refine st1 ?_
    have hq : some _ = some _ := hF
    cases hq
    exact en1
  · refine st1 ?_
    have hq : some _ = some _ := hF
    cases hq
    exact en1


@[reducible] noncomputable def c_hull_validDensity : Con := conF F_hull_validDensity (fun x => match x with | (a0) => [(V.agg (eTBounds a0))]) (fun r => (V.v (.bool (r))))
theorem h_hull_validDensity : Has Tryz.prog 54 c_hull_validDensity := by
  refine hasF (ctx_cons h_numbers_Valid ctx_nil) mix Tryz.func54 rfl (by kernel_rfl) ?_
  rintro a0 r hF
  refine ⟨of_decide_eq_true rfl, ?_⟩
  refine st1 ?_
  obtain ⟨_, h, hF⟩ := e_bind hF
  (first | refine g_call h lv1 ?_ | refine g_callT h lv1 ?_)
  (conv => arg 1; whnf)
  refine st1 ?_
  have hq : some _ = some _ := hF
  cases hq
  exact en1


@[reducible] noncomputable def c_hull_ship_loaded : Con := conF F_hull_ship_loaded (fun x => match x with | (a0, a1) => [(V.agg (eThull_ship a0)), (V.sl (recs (eI .i64) (a1)) (a1).length)]) (fun r => V.tup [(V.v (.int .i64 (r.1))), (V.v (.int .i64 (r.2)))])
theorem h_hull_ship_loaded : Has Tryz.prog 92 c_hull_ship_loaded := by
  refine hasF ctx_nil mix Tryz.func92 rfl (by kernel_rfl) ?_
  rintro ⟨a0, a1⟩ r hF
  refine ⟨of_decide_eq_true rfl, ?_⟩
  refine st1 ?_
  refine st_loopF (e_assoc hF) () [(0, _)] ⟨sT, sS, by rfl, by rfl⟩ ?_
  · rintro n ⟨_, _, _⟩ _ x hx1 hF
    (conv => arg 7; whnf); (conv => arg 8; whnf); (conv => arg 9; whnf)
    refine st1 ?_
    rcases e_bif hF with ⟨hb3, hF⟩ | ⟨hb3, hF⟩ <;> (first | rw [hb3] | (conv => arg 7; rw [hb3]))
    · refine st1 ?_
      obtain ⟨_, h, hF⟩ := e_bind hF
      (first | refine o_ia (enc := (eI .i64)) (s := 1) h (fun _ => rfl) (by decide) ?_ | refine o_iaT (enc := (eI .i64)) (s := 1) h (fun _ => rfl) (by decide) ?_)
      intro _
      refine st1 ?_
      obtain ⟨_, h, hF⟩ := e_bind hF
      (first | refine o_ia (enc := eThull_hold) (s := 3) h (fun _ => rfl) (by decide) ?_ | refine o_iaT (enc := eThull_hold) (s := 3) h (fun _ => rfl) (by decide) ?_)
      intro _
      refine st1 ?_
      exact k_loopF (e_some hF) hx1 () [(0, _)] ⟨sT, sS, by rfl, by rfl⟩
    · refine st1 ?_
      have hF := e_some hF
      have hq : some _ = some _ := hF
      cases hq
      exact en1


@[reducible] noncomputable def c_numbers_Down : Con := conF F_numbers_Down (fun x => match x with | (a0, a1) => [(V.v (.int .i64 (a0))), (V.v (.int .i64 (a1)))]) (fun r => (V.v (.int .i64 (r))))
theorem h_numbers_Down : Has Tryz.prog 120 c_numbers_Down := by
  refine hasF ctx_nil mix Tryz.func120 rfl (by kernel_rfl) ?_
  rintro ⟨a0, a1⟩ r hF
  refine ⟨of_decide_eq_true rfl, ?_⟩
  refine st1 ?_
  obtain ⟨_, h, hF⟩ := e_bind hF
  (first | refine go_req (nz_ne h) ?_ | refine goT_req (nz_ne h) ?_)
  (conv => arg 1; whnf)
  refine st1 ?_
  rcases e_bif hF with ⟨hb1, hF⟩ | ⟨hb1, hF⟩ <;> (first | rw [hb1] | (conv => arg 7; rw [hb1]))
  · refine st1 ?_
    obtain ⟨_, h, hF⟩ := e_bind hF
    (first | refine go_req (nz_ne h) ?_ | refine goT_req (nz_ne h) ?_)
    (conv => arg 1; whnf)
    refine st1 ?_
    have hq : some _ = some _ := hF
    cases hq
    exact en1
  · refine st1 ?_
    obtain ⟨_, h, hF⟩ := e_bind hF
    (first | refine go_req (nz_ne h) ?_ | refine goT_req (nz_ne h) ?_)
    (conv => arg 1; whnf)
    refine st1 ?_
    have hq : some _ = some _ := hF
    cases hq
    exact en1


@[reducible] noncomputable def c_numbers_Up : Con := conF F_numbers_Up (fun x => match x with | (a0, a1) => [(V.v (.int .i64 (a0))), (V.v (.int .i64 (a1)))]) (fun r => (V.v (.int .i64 (r))))
theorem h_numbers_Up : Has Tryz.prog 94 c_numbers_Up := by
  refine hasF (ctx_cons h_numbers_Down ctx_nil) mix Tryz.func94 rfl (by kernel_rfl) ?_
  rintro ⟨a0, a1⟩ r hF
  refine ⟨of_decide_eq_true rfl, ?_⟩
  refine st1 ?_
  obtain ⟨_, h, hF⟩ := e_bind hF
  (first | refine g_call h lv1 ?_ | refine g_callT h lv1 ?_)
  (conv => arg 1; whnf)
  refine st1 ?_
  have hq : some _ = some _ := hF
  cases hq
  exact en1


@[reducible] noncomputable def c_sort_Search (C : FuncId → Option Con) : Con := conK F_sort_Search (fun x => match x with | (a0, a1, g, caps) => [(V.v (.int .i64 (a0))), (V.fn g caps)]) (fun x => match x with | (a0, a1, g, caps) => Callable (ext C []) g caps (fun x => match x with | (q0) => [(V.v (.int .i64 (q0)))]) (fun r => (V.v (.bool (r)))) a1) (fun r => (V.v (.int .i64 (r))))
theorem h_sort_Search {C : FuncId → Option Con} (hC : CtxOK Tryz.prog C) : Has Tryz.prog 118 (c_sort_Search C) := by
  refine hasK (ext_nil hC) mix Tryz.func118 rfl (by kernel_rfl) ?_
  rintro ⟨a0, a1, g, caps⟩ r hcl hF
  obtain ⟨hcaps, c, hc, hce, hcall⟩ := id hcl
  refine ⟨of_decide_eq_true rfl, ?_⟩
  refine st1 ?_
  refine st_loopF (e_assoc hF) () [] ⟨sT, sS, by rfl, by rfl⟩ ?_
  · rintro n ⟨_, _⟩ _ x hx1 hF
    (conv => arg 7; whnf); (conv => arg 8; whnf); (conv => arg 9; whnf)
    refine st1 ?_
    rcases e_bif hF with ⟨hb5, hF⟩ | ⟨hb5, hF⟩ <;> (first | rw [hb5] | (conv => arg 7; rw [hb5]))
    · refine st1 ?_
      obtain ⟨_, h, hF⟩ := e_bind hF
      rw [hc]
      (conv => arg 1; whnf)
      rw [hce]
      (conv => arg 1; whnf)
      (first | refine go_map hcaps rfl ?_ | refine goT_map hcaps rfl ?_)
      (conv => arg 1; whnf)
      obtain ⟨z, hz1, hz2, hz3⟩ := hcall _ _ h
      (first | refine go_exi z ⟨levs_eq hz1.symm, hz2⟩ ?_ | refine goT_exi z ⟨levs_eq hz1.symm, hz2⟩ ?_)
      rw [hz3]
      (conv => arg 1; whnf)
      refine st1 ?_
      rcases e_bif hF with ⟨hb6, hF⟩ | ⟨hb6, hF⟩ <;> (first | rw [hb6] | (conv => arg 7; rw [hb6]))
      · refine st1 ?_
        exact k_loopF (e_some hF) hx1 () [] ⟨sT, sS, by rfl, by rfl⟩
      · refine st1 ?_
        exact k_loopF (e_some hF) hx1 () [] ⟨sT, sS, by rfl, by rfl⟩
    · refine st1 ?_
      have hF := e_some hF
      have hq : some _ = some _ := hF
      cases hq
      exact en1


@[reducible] noncomputable def c_hull_ship_mean_1 : Con := conF F_hull_ship_mean_1 (fun x => match x with | (a0, c0, c1) => [(V.v (.int .i64 (a0))), (V.fptr [(V.v (.int .i64 (c0.Hull.Lot))), (V.sl (recs eTHullSection (c0.Hull.Sections)) (c0.Hull.Sections).length), (V.v (.int .i64 (c0.limit_))), (V.v (.int .i64 (c0.trim_))), (V.v (.int .i64 (c0.mass_))), (V.v (.int .i64 (c0.moment_))), (V.sl (recs eThull_hold (c0.storage_)) (c0.storage_).length)]), (V.fptr [(V.v (.int .i64 (c1)))])]) (fun r => (V.v (.bool (r))))
theorem h_hull_ship_mean_1 : Has Tryz.prog 119 c_hull_ship_mean_1 := by
  refine hasF (ctx_cons h_hull_ship_volume ctx_nil) mix Tryz.func119 rfl (by kernel_rfl) ?_
  rintro ⟨a0, c0, c1⟩ r hF
  refine ⟨of_decide_eq_true rfl, ?_⟩
  refine st1 ?_
  obtain ⟨_, h, hF⟩ := e_bind hF
  (first | refine g_call h lv1 ?_ | refine g_callT h lv1 ?_)
  (conv => arg 1; whnf)
  refine st1 ?_
  have hq : some _ = some _ := hF
  cases hq
  exact en1


@[reducible] noncomputable def c_hull_ship_mean : Con := conF F_hull_ship_mean (fun x => match x with | (a0, a1, a2) => [(V.agg (eThull_ship a0)), (V.v (.int .i64 (a1))), (V.v (.int .i64 (a2)))]) (fun r => (V.v (.int .i64 (r))))
theorem h_hull_ship_mean : Has Tryz.prog 93 c_hull_ship_mean := by
  refine hasF (ctx_cons (h_sort_Search (ctx_cons h_hull_ship_mean_1 ctx_nil)) (ctx_cons h_numbers_Up ctx_nil)) mix Tryz.func93 rfl (by kernel_rfl) ?_
  rintro ⟨a0, a1, a2⟩ r hF
  refine ⟨of_decide_eq_true rfl, ?_⟩
  refine st1 ?_
  obtain ⟨_, h, hF⟩ := e_bind hF
  (first | refine g_call h lv1 ?_ | refine g_callT h lv1 ?_)
  (conv => arg 1; whnf)
  refine st1 ?_
  obtain ⟨_, h, hF⟩ := e_bind hF
  (first | refine g_hcall h lv1 (callable_conF rfl rfl (fun _ => rfl)) ?_ | refine g_hcallT h lv1 (callable_conF rfl rfl (fun _ => rfl)) ?_)
  (conv => arg 1; whnf)
  refine st1 ?_
  have hq : some _ = some _ := hF
  cases hq
  exact en1


@[reducible] noncomputable def c_hull_withoutSign : Con := conF F_hull_withoutSign (fun x => match x with | (a0) => [(V.v (.int .i64 (a0)))]) (fun r => (V.v (.int .i64 (r))))
theorem h_hull_withoutSign : Has Tryz.prog 95 c_hull_withoutSign := by
  refine hasF ctx_nil mix Tryz.func95 rfl (by kernel_rfl) ?_
  rintro a0 r hF
  refine ⟨of_decide_eq_true rfl, ?_⟩
  refine st1 ?_
  have hq : some _ = some _ := hF
  cases hq
  exact en1


@[reducible] noncomputable def c_cmp_isNaN_int : Con := conF F_cmp_isNaN_int (fun x => match x with | (a0) => [(V.v (.int .i64 (a0)))]) (fun r => (V.v (.bool (r))))
theorem h_cmp_isNaN_int : Has Tryz.prog 121 c_cmp_isNaN_int := by
  refine hasF ctx_nil mix Tryz.func121 rfl (by kernel_rfl) ?_
  rintro a0 r hF
  refine ⟨of_decide_eq_true rfl, ?_⟩
  refine st1 ?_
  have hq : some _ = some _ := hF
  cases hq
  exact en1


@[reducible] noncomputable def c_cmp_Compare_int : Con := conF F_cmp_Compare_int (fun x => match x with | (a0, a1) => [(V.v (.int .i64 (a0))), (V.v (.int .i64 (a1)))]) (fun r => (V.v (.int .i64 (r))))
theorem h_cmp_Compare_int : Has Tryz.prog 96 c_cmp_Compare_int := by
  refine hasF (ctx_cons h_cmp_isNaN_int ctx_nil) mix Tryz.func96 rfl (by kernel_rfl) ?_
  rintro ⟨a0, a1⟩ r hF
  simp only [F_cmp_Compare_int] at hF
  refine ⟨of_decide_eq_true rfl, ?_⟩
  refine st1 ?_
  obtain ⟨_, h, hF⟩ := e_bind hF
  (first | refine g_call h lv1 ?_ | refine g_callT h lv1 ?_)
  (conv => arg 1; whnf)
  refine st1 ?_
  obtain ⟨_, h, hF⟩ := e_bind hF
  (first | refine g_call h lv1 ?_ | refine g_callT h lv1 ?_)
  (conv => arg 1; whnf)
  refine st1 ?_
  rcases e_bif hF with ⟨hb1, hF⟩ | ⟨hb1, hF⟩ <;> (first | rw [hb1] | (conv => arg 7; rw [hb1]))
  · refine st1 ?_
    rcases e_bif hF with ⟨hb2, hF⟩ | ⟨hb2, hF⟩ <;> (first | rw [hb2] | (conv => arg 7; rw [hb2]))
    · refine st1 ?_
      have hq : some _ = some _ := hF
      cases hq
      exact en1
    · refine st1 ?_
      have hq : some _ = some _ := hF
      cases hq
      exact en1
  · refine st1 ?_
    rcases e_bif hF with ⟨hb3, hF⟩ | ⟨hb3, hF⟩ <;> (first | rw [hb3] | (conv => arg 7; rw [hb3]))
    · refine st1 ?_
      have hq : some _ = some _ := hF
      cases hq
      exact en1
    · refine st1 ?_
      rcases e_bif hF with ⟨hb4, hF⟩ | ⟨hb4, hF⟩ <;> (first | rw [hb4] | (conv => arg 7; rw [hb4]))
      · refine st1 ?_
        have hq : some _ = some _ := hF
        cases hq
        exact en1
      · refine st1 ?_
        rcases e_bif hF with ⟨hb5, hF⟩ | ⟨hb5, hF⟩ <;> (first | rw [hb5] | (conv => arg 7; rw [hb5]))
        · refine st1 ?_
          have hq : some _ = some _ := hF
          cases hq
          exact en1
        · refine st1 ?_
          have hq : some _ = some _ := hF
          cases hq
          exact en1


@[reducible] noncomputable def c_hull_ship_float : Con := conF F_hull_ship_float (fun x => match x with | (a0, a1, a2) => [(V.agg (eThull_ship a0)), (V.sl (recs (eI .i64) (a1)) (a1).length), (V.agg (eTBounds a2))]) (fun r => V.tup [(V.agg (eTHullFloat r.1)), (V.v (.int .i64 (r.2)))])
theorem h_hull_ship_float : Has Tryz.prog 55 c_hull_ship_float := by
  refine hasF (ctx_cons h_cmp_Compare_int (ctx_cons h_hull_withoutSign (ctx_cons h_numbers_Up (ctx_cons h_hull_ship_mean (ctx_cons h_hull_ship_loaded ctx_nil))))) mix Tryz.func55 rfl (by kernel_rfl) ?_
  rintro ⟨a0, a1, a2⟩ r hF
  refine ⟨of_decide_eq_true rfl, ?_⟩
  refine st1 ?_
  obtain ⟨_, h, hF⟩ := e_bind hF
  (first | refine g_call h lv1 ?_ | refine g_callT h lv1 ?_)
  (conv => arg 1; whnf)
  refine st1 ?_
  obtain ⟨_, h, hF⟩ := e_bind hF
  (first | refine g_call h lv1 ?_ | refine g_callT h lv1 ?_)
  (conv => arg 1; whnf)
  refine st1 ?_
  obtain ⟨_, h, hF⟩ := e_bind hF
  (first | refine g_call h lv1 ?_ | refine g_callT h lv1 ?_)
  (conv => arg 1; whnf)
  refine st1 ?_
  obtain ⟨_, h, hF⟩ := e_bind hF
  (first | refine g_call h lv1 ?_ | refine g_callT h lv1 ?_)
  (conv => arg 1; whnf)
  refine st1 ?_
  obtain ⟨_, h, hF⟩ := e_bind hF
  (first | refine g_call h lv1 ?_ | refine g_callT h lv1 ?_)
  (conv => arg 1; whnf)
  refine st1 ?_
  rcases e_bif hF with ⟨hb1, hF⟩ | ⟨hb1, hF⟩ <;> (first | rw [hb1] | (conv => arg 7; rw [hb1]))
  · refine st1 ?_
    have hq : some _ = some _ := hF
    cases hq
    exact en1
  · refine st1 ?_
    obtain ⟨_, h, hF⟩ := e_bind hF
    (first | refine g_call h lv1 ?_ | refine g_callT h lv1 ?_)
    (conv => arg 1; whnf)
    refine st1 ?_
    have hq : some _ = some _ := hF
    cases hq
    exact en1


@[reducible] noncomputable def c_hull_Float : Con := conF F_hull_Float (fun x => match x with | (a0, a1, a2) => [(V.agg (eTHull a0)), (V.sl (recs (eI .i64) (a1)) (a1).length), (V.agg (eTBounds a2))]) (fun r => V.tup [(V.agg (eTHullFloat r.1)), (V.v (.int .i64 (r.2)))])
theorem h_hull_Float : Has Tryz.prog 15 c_hull_Float := by
  refine hasF (ctx_cons h_hull_ship_float (ctx_cons h_hull_validDensity (ctx_cons h_hull_ship_checkLoad (ctx_cons h_hull_launch ctx_nil)))) mix Tryz.func15 rfl (by kernel_rfl) ?_
  rintro ⟨a0, a1, a2⟩ r hF
  refine ⟨of_decide_eq_true rfl, ?_⟩
  refine st1 ?_
  obtain ⟨_, h, hF⟩ := e_bind hF
  (first | refine g_call h lv1 ?_ | refine g_callT h lv1 ?_)
  (conv => arg 1; whnf)
  refine st1 ?_
  rcases e_bif hF with ⟨hb1, hF⟩ | ⟨hb1, hF⟩ <;> (first | rw [hb1] | (conv => arg 7; rw [hb1]))
  · refine st1 ?_
    have hq : some _ = some _ := hF
    cases hq
    exact en1
  · refine st1 ?_
    obtain ⟨_, h, hF⟩ := e_bind hF
    (first | refine g_call h lv1 ?_ | refine g_callT h lv1 ?_)
    (conv => arg 1; whnf)
    refine st1 ?_
    rcases e_bif hF with ⟨hb2, hF⟩ | ⟨hb2, hF⟩ <;> (first | rw [hb2] | (conv => arg 7; rw [hb2]))
    · refine st1 ?_
      have hq : some _ = some _ := hF
      cases hq
      exact en1
    · refine st1 ?_
      obtain ⟨_, h, hF⟩ := e_bind hF
      (first | refine g_call h lv1 ?_ | refine g_callT h lv1 ?_)
      (conv => arg 1; whnf)
      refine st1 ?_
      rcases e_bif hF with ⟨hb3, hF⟩ | ⟨hb3, hF⟩ <;> (first | rw [hb3] | (conv => arg 7; rw [hb3]))
      · refine st1 ?_
        have hq : some _ = some _ := hF
        cases hq
        exact en1
      · refine st1 ?_
        obtain ⟨_, h, hF⟩ := e_bind hF
        (first | refine g_call h lv1 ?_ | refine g_callT h lv1 ?_)
        (conv => arg 1; whnf)
        refine st1 ?_
        have hq : some _ = some _ := hF
        cases hq
        exact en1


@[reducible] noncomputable def c_thalweglaw02_same : Con := conF F_thalweglaw02_same (fun x => match x with | (a0, a1) => [(V.agg (eTHull a0)), (V.agg (eTHull a1))]) (fun r => (V.v (.bool (r))))
theorem fl_thalweglaw02_same_75 : flatOf Tryz.prog 9 75 = some [true, true] := by kernel_rfl
theorem eg_thalweglaw02_same_75 : Tryz.prog.eqGuardType Tryz.prog.depth 75 = false := by kernel_rfl
theorem ag_thalweglaw02_same_75 : aggOf Tryz.prog 75 = some true := by kernel_rfl
theorem fl_thalweglaw02_same_136 : flatOf Tryz.prog 9 136 = some [true, true] := by kernel_rfl
theorem eg_thalweglaw02_same_136 : Tryz.prog.eqGuardType Tryz.prog.depth 136 = false := by kernel_rfl
theorem ag_thalweglaw02_same_136 : aggOf Tryz.prog 136 = some true := by kernel_rfl
theorem h_thalweglaw02_same : Has Tryz.prog 16 c_thalweglaw02_same := by
  refine hasF ctx_nil mix Tryz.func16 rfl (by kernel_rfl) ?_
  rintro ⟨a0, a1⟩ r hF
  refine ⟨of_decide_eq_true rfl, ?_⟩
  refine st1 ?_
  rcases e_bif hF with ⟨hb1, hF⟩ | ⟨hb1, hF⟩ <;> (first | rw [hb1] | (conv => arg 7; rw [hb1]))
  · refine st1 ?_
    have hq : some _ = some _ := hF
    cases hq
    exact en1
  · refine st1 ?_
    rcases e_bif hF with ⟨hb2, hF⟩ | ⟨hb2, hF⟩ <;> (first | rw [hb2] | (conv => arg 7; rw [hb2]))
    · refine st1 ?_
      have hq : some _ = some _ := hF
      cases hq
      exact en1
    · refine st1 ?_
      refine st_loopF (e_assoc hF) () [(0, _), (1, _)] ⟨sT, sS, by rfl, by rfl⟩ ?_
      · rintro n _ _ x hx1 hF
        (conv => arg 7; whnf); (conv => arg 8; whnf); (conv => arg 9; whnf)
        refine st1 ?_
        rcases e_bif hF with ⟨hb39, hF⟩ | ⟨hb39, hF⟩ <;> (first | rw [hb39] | (conv => arg 7; rw [hb39]))
        · refine st1 ?_
          obtain ⟨_, h, hF⟩ := e_bind hF
          (first | refine o_ia (enc := eTHullSection) (s := 5) h (fun _ => rfl) (by decide) ?_ | refine o_iaT (enc := eTHullSection) (s := 5) h (fun _ => rfl) (by decide) ?_)
          intro _
          refine st1 ?_
          obtain ⟨_, h, hF⟩ := e_bind hF
          (first | refine o_ia (enc := eTHullSection) (s := 5) h (fun _ => rfl) (by decide) ?_ | refine o_iaT (enc := eTHullSection) (s := 5) h (fun _ => rfl) (by decide) ?_)
          intro _
          refine st1 ?_
          rcases e_bif hF with ⟨hb40, hF⟩ | ⟨hb40, hF⟩ <;> (first | rw [hb40] | (conv => arg 7; rw [hb40]))
          · refine st1 ?_
            have hF := e_some hF
            have hq : some _ = some _ := hF
            cases hq
            exact en1
          · refine st1 ?_
            rcases e_bif hF with ⟨hb41, hF⟩ | ⟨hb41, hF⟩ <;> (first | rw [hb41] | (conv => arg 7; rw [hb41]))
            · refine st1 ?_
              have hF := e_some hF
              have hq : some _ = some _ := hF
              cases hq
              exact en1
            · refine st1 ?_
              rcases e_bif hF with ⟨hb42, hF⟩ | ⟨hb42, hF⟩ <;> (first | rw [hb42] | (conv => arg 7; rw [hb42]))
              · refine st1 ?_
                have hF := e_some hF
                have hq : some _ = some _ := hF
                cases hq
                exact en1
              · refine st1 ?_
                rcases e_bif hF with ⟨hb43, hF⟩ | ⟨hb43, hF⟩ <;> (first | rw [hb43] | (conv => arg 7; rw [hb43]))
                · refine st1 ?_
                  have hF := e_some hF
                  have hq : some _ = some _ := hF
                  cases hq
                  exact en1
                · refine st1 ?_
                  rcases e_bif hF with ⟨hb44, hF⟩ | ⟨hb44, hF⟩ <;> (first | rw [hb44] | (conv => arg 7; rw [hb44]))
                  · refine st1 ?_
                    have hF := e_some hF
                    have hq : some _ = some _ := hF
                    cases hq
                    exact en1
                  · refine st1 ?_
                    refine st_loopF (e_assoc hF) () [(0, _), (1, _), (17, _), (18, _)] ⟨sT, sS, by rfl, by rfl⟩ ?_
                    · rintro n _ _ x hx2 hF
                      (conv => arg 7; whnf); (conv => arg 8; whnf); (conv => arg 9; whnf)
                      refine st1 ?_
                      rcases e_bif hF with ⟨hb49, hF⟩ | ⟨hb49, hF⟩ <;> (first | rw [hb49] | (conv => arg 7; rw [hb49]))
                      · refine st1 ?_
                        obtain ⟨_, h, hF⟩ := e_bind hF
                        (first | refine o_ia (enc := eTHullRow) (s := 2) h (fun _ => rfl) (by decide) ?_ | refine o_iaT (enc := eTHullRow) (s := 2) h (fun _ => rfl) (by decide) ?_)
                        intro _
                        refine st1 ?_
                        obtain ⟨_, h, hF⟩ := e_bind hF
                        (first | refine o_ia (enc := eTHullRow) (s := 2) h (fun _ => rfl) (by decide) ?_ | refine o_iaT (enc := eTHullRow) (s := 2) h (fun _ => rfl) (by decide) ?_)
                        intro _
                        refine st1 ?_
                        rw [fl_thalweglaw02_same_136, eg_thalweglaw02_same_136, ag_thalweglaw02_same_136]
                        (conv => arg 1; whnf)
                        refine st1 ?_
                        rcases e_bif hF with ⟨hb50, hF⟩ | ⟨hb50, hF⟩ <;> (first | rw [hb50] | (conv => arg 7; rw [hb50]))
                        · refine st1 ?_
                          have hF := e_some hF
                          have hF := e_some hF
                          have hq : some _ = some _ := hF
                          cases hq
                          exact en1
                        · refine st1 ?_
                          exact k_loopF (e_some hF) hx2 () [(0, _), (1, _), (17, _), (18, _)] ⟨sT, sS, by rfl, by rfl⟩
                      · refine st1 ?_
                        have hF := e_some hF
                        refine st_loopF (e_assoc hF) () [(0, _), (1, _), (17, _), (18, _)] ⟨sT, sS, by rfl, by rfl⟩ ?_
                        · rintro n _ _ x hx2 hF
                          (conv => arg 7; whnf); (conv => arg 8; whnf); (conv => arg 9; whnf)
                          refine st1 ?_
                          rcases e_bif hF with ⟨hb55, hF⟩ | ⟨hb55, hF⟩ <;> (first | rw [hb55] | (conv => arg 7; rw [hb55]))
                          · refine st1 ?_
                            obtain ⟨_, h, hF⟩ := e_bind hF
                            (first | refine o_ia (enc := eTHullHold) (s := 2) h (fun _ => rfl) (by decide) ?_ | refine o_iaT (enc := eTHullHold) (s := 2) h (fun _ => rfl) (by decide) ?_)
                            intro _
                            refine st1 ?_
                            obtain ⟨_, h, hF⟩ := e_bind hF
                            (first | refine o_ia (enc := eTHullHold) (s := 2) h (fun _ => rfl) (by decide) ?_ | refine o_iaT (enc := eTHullHold) (s := 2) h (fun _ => rfl) (by decide) ?_)
                            intro _
                            refine st1 ?_
                            rw [fl_thalweglaw02_same_75, eg_thalweglaw02_same_75, ag_thalweglaw02_same_75]
                            (conv => arg 1; whnf)
                            refine st1 ?_
                            rcases e_bif hF with ⟨hb56, hF⟩ | ⟨hb56, hF⟩ <;> (first | rw [hb56] | (conv => arg 7; rw [hb56]))
                            · refine st1 ?_
                              have hF := e_some hF
                              have hF := e_some hF
                              have hq : some _ = some _ := hF
                              cases hq
                              exact en1
                            · refine st1 ?_
                              exact k_loopF (e_some hF) hx2 () [(0, _), (1, _), (17, _), (18, _)] ⟨sT, sS, by rfl, by rfl⟩
                          · refine st1 ?_
                            have hF := e_some hF
                            exact k_loopF (e_some hF) hx1 () [(0, _), (1, _)] ⟨sT, sS, by rfl, by rfl⟩
        · refine st1 ?_
          have hF := e_some hF
          have hq : some _ = some _ := hF
          cases hq
          exact en1


@[reducible] noncomputable def c_thalweglaw02_equal : Con := conF F_thalweglaw02_equal (fun x => match x with | (a0, a1) => [(V.sl (recs (eI .i64) (a0)) (a0).length), (V.sl (recs (eI .i64) (a1)) (a1).length)]) (fun r => (V.v (.bool (r))))
theorem h_thalweglaw02_equal : Has Tryz.prog 17 c_thalweglaw02_equal := by
  refine hasF ctx_nil mix Tryz.func17 rfl (by kernel_rfl) ?_
  rintro ⟨a0, a1⟩ r hF
  refine ⟨of_decide_eq_true rfl, ?_⟩
  refine st1 ?_
  rcases e_bif hF with ⟨hb1, hF⟩ | ⟨hb1, hF⟩ <;> (first | rw [hb1] | (conv => arg 7; rw [hb1]))
  · refine st1 ?_
    have hq : some _ = some _ := hF
    cases hq
    exact en1
  · refine st1 ?_
    refine st_loopF (e_assoc hF) () [] ⟨sT, sS, by rfl, by rfl⟩ ?_
    · rintro n _ _ x hx1 hF
      (conv => arg 7; whnf); (conv => arg 8; whnf); (conv => arg 9; whnf)
      refine st1 ?_
      rcases e_bif hF with ⟨hb6, hF⟩ | ⟨hb6, hF⟩ <;> (first | rw [hb6] | (conv => arg 7; rw [hb6]))
      · refine st1 ?_
        obtain ⟨_, h, hF⟩ := e_bind hF
        (first | refine o_ia (enc := (eI .i64)) (s := 1) h (fun _ => rfl) (by decide) ?_ | refine o_iaT (enc := (eI .i64)) (s := 1) h (fun _ => rfl) (by decide) ?_)
        intro _
        refine st1 ?_
        obtain ⟨_, h, hF⟩ := e_bind hF
        (first | refine o_ia (enc := (eI .i64)) (s := 1) h (fun _ => rfl) (by decide) ?_ | refine o_iaT (enc := (eI .i64)) (s := 1) h (fun _ => rfl) (by decide) ?_)
        intro _
        refine st1 ?_
        rcases e_bif hF with ⟨hb7, hF⟩ | ⟨hb7, hF⟩ <;> (first | rw [hb7] | (conv => arg 7; rw [hb7]))
        · refine st1 ?_
          have hF := e_some hF
          have hq : some _ = some _ := hF
          cases hq
          exact en1
        · refine st1 ?_
          exact k_loopF (e_some hF) hx1 () [] ⟨sT, sS, by rfl, by rfl⟩
      · refine st1 ?_
        have hF := e_some hF
        have hq : some _ = some _ := hF
        cases hq
        exact en1


@[reducible] noncomputable def c_thalwegref02_Holds : Con := conF F_thalwegref02_Holds (fun x => match x with | (a0) => [(V.agg (eTHull a0))]) (fun r => (V.sl (recs eTHullHold (r)) (r).length))
theorem h_thalwegref02_Holds : Has Tryz.prog 31 c_thalwegref02_Holds := by
  refine hasF ctx_nil mix Tryz.func31 rfl (by kernel_rfl) ?_
  rintro a0 r hF
  refine ⟨of_decide_eq_true rfl, ?_⟩
  refine st1 ?_
  refine st_loopF (e_assoc hF) () [(0, _), (2, _)] ⟨sT, sS, by rfl, by rfl⟩ ?_
  · rintro n ⟨_, _, _⟩ _ x hx1 hF
    (conv => arg 7; whnf); (conv => arg 8; whnf); (conv => arg 9; whnf)
    refine st1 ?_
    rcases e_bif hF with ⟨hb9, hF⟩ | ⟨hb9, hF⟩ <;> (first | rw [hb9] | (conv => arg 7; rw [hb9]))
    · refine st1 ?_
      refine st_loopF (e_assoc hF) () [(0, _), (2, _)] ⟨sT, sS, by rfl, by rfl⟩ ?_
      · rintro n ⟨_, _⟩ _ x hx2 hF
        (conv => arg 7; whnf); (conv => arg 8; whnf); (conv => arg 9; whnf)
        refine st1 ?_
        obtain ⟨_, h, hF⟩ := e_bind hF
        (first | refine o_ia (enc := eTHullSection) (s := 5) h (fun _ => rfl) (by decide) ?_ | refine o_iaT (enc := eTHullSection) (s := 5) h (fun _ => rfl) (by decide) ?_)
        intro _
        refine st1 ?_
        rcases e_bif hF with ⟨hb12, hF⟩ | ⟨hb12, hF⟩ <;> (first | rw [hb12] | (conv => arg 7; rw [hb12]))
        · refine st1 ?_
          obtain ⟨_, h, hF⟩ := e_bind hF
          (first | refine o_ia (enc := eTHullSection) (s := 5) h (fun _ => rfl) (by decide) ?_ | refine o_iaT (enc := eTHullSection) (s := 5) h (fun _ => rfl) (by decide) ?_)
          intro _
          refine st1 ?_
          obtain ⟨_, h, hF⟩ := e_bind hF
          (first | refine o_ia (enc := eTHullHold) (s := 2) h (fun _ => rfl) (by decide) ?_ | refine o_iaT (enc := eTHullHold) (s := 2) h (fun _ => rfl) (by decide) ?_)
          intro _
          refine st1 ?_
          obtain ⟨_, h, hF⟩ := e_bind hF
          (first | refine o_app (enc := eTHullHold) (s := 2) h (fun _ => rfl) ?_ | refine o_appT (enc := eTHullHold) (s := 2) h (fun _ => rfl) ?_)
          refine st1 ?_
          exact k_loopF (e_some hF) hx2 () [(0, _), (2, _)] ⟨sT, sS, by rfl, by rfl⟩
        · refine st1 ?_
          have hF := e_some hF
          obtain ⟨_, h, hF⟩ := e_bind hF
          (first | refine o_ia (enc := eTHullSection) (s := 5) h (fun _ => rfl) (by decide) ?_ | refine o_iaT (enc := eTHullSection) (s := 5) h (fun _ => rfl) (by decide) ?_)
          intro _
          refine st1 ?_
          exact k_loopF (e_some hF) hx1 () [(0, _), (2, _)] ⟨sT, sS, by rfl, by rfl⟩
    · refine st1 ?_
      have hF := e_some hF
      have hq : some _ = some _ := hF
      cases hq
      exact en1


@[reducible] noncomputable def c_thalwegref01_In : Con := conF F_thalwegref01_In (fun x => match x with | (a0, a1, a2) => [(V.v (.int .i64 (a0))), (V.v (.int .i64 (a1))), (V.v (.int .i64 (a2)))]) (fun r => (V.v (.bool (r))))
theorem h_thalwegref01_In : Has Tryz.prog 56 c_thalwegref01_In := by
  refine hasF ctx_nil mix Tryz.func56 rfl (by kernel_rfl) ?_
  rintro ⟨a0, a1, a2⟩ r hF
  refine ⟨of_decide_eq_true rfl, ?_⟩
  refine st1 ?_
  rcases e_bif hF with ⟨hb1, hF⟩ | ⟨hb1, hF⟩ <;> (first | rw [hb1] | (conv => arg 7; rw [hb1]))
  · refine st1 ?_
    have hq : some _ = some _ := hF
    cases hq
    exact en1
  · refine st1 ?_
    have hq : some _ = some _ := hF
    cases hq
    exact en1


@[reducible] noncomputable def c_thalwegref02_Section : Con := conF F_thalwegref02_Section (fun x => match x with | (a0) => [(V.agg (eTHullSection a0))]) (fun r => (V.v (.bool (r))))
theorem fl_thalwegref02_Section_136 : flatOf Tryz.prog 9 136 = some [true, true] := by kernel_rfl
theorem eg_thalwegref02_Section_136 : Tryz.prog.eqGuardType Tryz.prog.depth 136 = false := by kernel_rfl
theorem ag_thalwegref02_Section_136 : aggOf Tryz.prog 136 = some true := by kernel_rfl
theorem h_thalwegref02_Section : Has Tryz.prog 57 c_thalwegref02_Section := by
  refine hasF (ctx_cons h_thalwegref01_In ctx_nil) mix Tryz.func57 rfl (by kernel_rfl) ?_
  rintro a0 r hF
  refine ⟨of_decide_eq_true rfl, ?_⟩
  refine st1 ?_
  obtain ⟨_, h, hF⟩ := e_bind hF
  (first | refine g_call h lv1 ?_ | refine g_callT h lv1 ?_)
  (conv => arg 1; whnf)
  refine st1 ?_
  rcases e_bif hF with ⟨hb1, hF⟩ | ⟨hb1, hF⟩ <;> (first | rw [hb1] | (conv => arg 7; rw [hb1]))
  · refine st1 ?_
    have hq : some _ = some _ := hF
    cases hq
    exact en1
  · refine st1 ?_
    obtain ⟨_, h, hF⟩ := e_bind hF
    (first | refine g_call h lv1 ?_ | refine g_callT h lv1 ?_)
    (conv => arg 1; whnf)
    refine st1 ?_
    rcases e_bif hF with ⟨hb2, hF⟩ | ⟨hb2, hF⟩ <;> (first | rw [hb2] | (conv => arg 7; rw [hb2]))
    · refine st1 ?_
      have hq : some _ = some _ := hF
      cases hq
      exact en1
    · refine st1 ?_
      obtain ⟨_, h, hF⟩ := e_bind hF
      (first | refine g_call h lv1 ?_ | refine g_callT h lv1 ?_)
      (conv => arg 1; whnf)
      refine st1 ?_
      rcases e_bif hF with ⟨hb3, hF⟩ | ⟨hb3, hF⟩ <;> (first | rw [hb3] | (conv => arg 7; rw [hb3]))
      · refine st1 ?_
        have hq : some _ = some _ := hF
        cases hq
        exact en1
      · refine st1 ?_
        obtain ⟨_, h, hF⟩ := e_bind hF
        (first | refine g_call h lv1 ?_ | refine g_callT h lv1 ?_)
        (conv => arg 1; whnf)
        refine st1 ?_
        rcases e_bif hF with ⟨hb4, hF⟩ | ⟨hb4, hF⟩ <;> (first | rw [hb4] | (conv => arg 7; rw [hb4]))
        · refine st1 ?_
          have hq : some _ = some _ := hF
          cases hq
          exact en1
        · refine st1 ?_
          refine st_loopF (e_assoc hF) () [(0, _)] ⟨sT, sS, by rfl, by rfl⟩ ?_
          · rintro n _ _ x hx1 hF
            (conv => arg 7; whnf); (conv => arg 8; whnf); (conv => arg 9; whnf)
            refine st1 ?_
            rcases e_bif hF with ⟨hb20, hF⟩ | ⟨hb20, hF⟩ <;> (first | rw [hb20] | (conv => arg 7; rw [hb20]))
            · refine st1 ?_
              obtain ⟨_, h, hF⟩ := e_bind hF
              (first | refine o_ia (enc := eTHullRow) (s := 2) h (fun _ => rfl) (by decide) ?_ | refine o_iaT (enc := eTHullRow) (s := 2) h (fun _ => rfl) (by decide) ?_)
              intro _
              refine st1 ?_
              obtain ⟨_, h, hF⟩ := e_bind hF
              (first | refine g_call h lv1 ?_ | refine g_callT h lv1 ?_)
              (conv => arg 1; whnf)
              refine st1 ?_
              rcases e_bif hF with ⟨hb21, hF⟩ | ⟨hb21, hF⟩ <;> (first | rw [hb21] | (conv => arg 7; rw [hb21]))
              · refine st1 ?_
                have hF := e_some hF
                have hq : some _ = some _ := hF
                cases hq
                exact en1
              · refine st1 ?_
                obtain ⟨_, h, hF⟩ := e_bind hF
                (first | refine o_ia (enc := eTHullRow) (s := 2) h (fun _ => rfl) (by decide) ?_ | refine o_iaT (enc := eTHullRow) (s := 2) h (fun _ => rfl) (by decide) ?_)
                intro _
                refine st1 ?_
                obtain ⟨_, h, hF⟩ := e_bind hF
                (first | refine g_call h lv1 ?_ | refine g_callT h lv1 ?_)
                (conv => arg 1; whnf)
                refine st1 ?_
                rcases e_bif hF with ⟨hb22, hF⟩ | ⟨hb22, hF⟩ <;> (first | rw [hb22] | (conv => arg 7; rw [hb22]))
                · refine st1 ?_
                  have hF := e_some hF
                  have hq : some _ = some _ := hF
                  cases hq
                  exact en1
                · refine st1 ?_
                  rcases e_bif hF with ⟨hb23, hF⟩ | ⟨hb23, hF⟩ <;> (first | rw [hb23] | (conv => arg 7; rw [hb23]))
                  · refine st1 ?_
                    obtain ⟨_, h, hF⟩ := e_bind hF
                    (first | refine o_ia (enc := eTHullRow) (s := 2) h (fun _ => rfl) (by decide) ?_ | refine o_iaT (enc := eTHullRow) (s := 2) h (fun _ => rfl) (by decide) ?_)
                    intro _
                    refine st1 ?_
                    rw [fl_thalwegref02_Section_136, eg_thalwegref02_Section_136, ag_thalwegref02_Section_136]
                    (conv => arg 1; whnf)
                    refine st1 ?_
                    rcases e_bif hF with ⟨hb24, hF⟩ | ⟨hb24, hF⟩ <;> (first | rw [hb24] | (conv => arg 7; rw [hb24]))
                    · refine st1 ?_
                      have hF := e_some hF
                      have hq : some _ = some _ := hF
                      cases hq
                      exact en1
                    · refine st1 ?_
                      rcases e_bif hF with ⟨hb25, hF⟩ | ⟨hb25, hF⟩ <;> (first | rw [hb25] | (conv => arg 7; rw [hb25]))
                      · refine st1 ?_
                        obtain ⟨_, h, hF⟩ := e_bind hF
                        (first | refine o_ia (enc := eTHullRow) (s := 2) h (fun _ => rfl) (by decide) ?_ | refine o_iaT (enc := eTHullRow) (s := 2) h (fun _ => rfl) (by decide) ?_)
                        intro _
                        refine st1 ?_
                        obtain ⟨_, h, hF⟩ := e_bind hF
                        (first | refine o_ia (enc := eTHullRow) (s := 2) h (fun _ => rfl) (by decide) ?_ | refine o_iaT (enc := eTHullRow) (s := 2) h (fun _ => rfl) (by decide) ?_)
                        intro _
                        refine st1 ?_
                        rcases e_bif hF with ⟨hb26, hF⟩ | ⟨hb26, hF⟩ <;> (first | rw [hb26] | (conv => arg 7; rw [hb26]))
                        · refine st1 ?_
                          have hF := e_some hF
                          have hq : some _ = some _ := hF
                          cases hq
                          exact en1
                        · refine st1 ?_
                          obtain ⟨_, h, hF⟩ := e_bind hF
                          (first | refine o_ia (enc := eTHullRow) (s := 2) h (fun _ => rfl) (by decide) ?_ | refine o_iaT (enc := eTHullRow) (s := 2) h (fun _ => rfl) (by decide) ?_)
                          intro _
                          refine st1 ?_
                          obtain ⟨_, h, hF⟩ := e_bind hF
                          (first | refine o_ia (enc := eTHullRow) (s := 2) h (fun _ => rfl) (by decide) ?_ | refine o_iaT (enc := eTHullRow) (s := 2) h (fun _ => rfl) (by decide) ?_)
                          intro _
                          refine st1 ?_
                          rcases e_bif hF with ⟨hb27, hF⟩ | ⟨hb27, hF⟩ <;> (first | rw [hb27] | (conv => arg 7; rw [hb27]))
                          · refine st1 ?_
                            have hF := e_some hF
                            have hq : some _ = some _ := hF
                            cases hq
                            exact en1
                          · refine st1 ?_
                            exact k_loopF (e_some hF) hx1 () [(0, _)] ⟨sT, sS, by rfl, by rfl⟩
                      · refine st1 ?_
                        exact k_loopF (e_some hF) hx1 () [(0, _)] ⟨sT, sS, by rfl, by rfl⟩
                  · refine st1 ?_
                    rcases e_bif hF with ⟨hb28, hF⟩ | ⟨hb28, hF⟩ <;> (first | rw [hb28] | (conv => arg 7; rw [hb28]))
                    · refine st1 ?_
                      obtain ⟨_, h, hF⟩ := e_bind hF
                      (first | refine o_ia (enc := eTHullRow) (s := 2) h (fun _ => rfl) (by decide) ?_ | refine o_iaT (enc := eTHullRow) (s := 2) h (fun _ => rfl) (by decide) ?_)
                      intro _
                      refine st1 ?_
                      obtain ⟨_, h, hF⟩ := e_bind hF
                      (first | refine o_ia (enc := eTHullRow) (s := 2) h (fun _ => rfl) (by decide) ?_ | refine o_iaT (enc := eTHullRow) (s := 2) h (fun _ => rfl) (by decide) ?_)
                      intro _
                      refine st1 ?_
                      rcases e_bif hF with ⟨hb29, hF⟩ | ⟨hb29, hF⟩ <;> (first | rw [hb29] | (conv => arg 7; rw [hb29]))
                      · refine st1 ?_
                        have hF := e_some hF
                        have hq : some _ = some _ := hF
                        cases hq
                        exact en1
                      · refine st1 ?_
                        obtain ⟨_, h, hF⟩ := e_bind hF
                        (first | refine o_ia (enc := eTHullRow) (s := 2) h (fun _ => rfl) (by decide) ?_ | refine o_iaT (enc := eTHullRow) (s := 2) h (fun _ => rfl) (by decide) ?_)
                        intro _
                        refine st1 ?_
                        obtain ⟨_, h, hF⟩ := e_bind hF
                        (first | refine o_ia (enc := eTHullRow) (s := 2) h (fun _ => rfl) (by decide) ?_ | refine o_iaT (enc := eTHullRow) (s := 2) h (fun _ => rfl) (by decide) ?_)
                        intro _
                        refine st1 ?_
                        rcases e_bif hF with ⟨hb30, hF⟩ | ⟨hb30, hF⟩ <;> (first | rw [hb30] | (conv => arg 7; rw [hb30]))
                        · refine st1 ?_
                          have hF := e_some hF
                          have hq : some _ = some _ := hF
                          cases hq
                          exact en1
                        · refine st1 ?_
                          exact k_loopF (e_some hF) hx1 () [(0, _)] ⟨sT, sS, by rfl, by rfl⟩
                    · refine st1 ?_
                      exact k_loopF (e_some hF) hx1 () [(0, _)] ⟨sT, sS, by rfl, by rfl⟩
            · refine st1 ?_
              have hF := e_some hF
              refine st_loopF (e_assoc hF) () [(0, _)] ⟨sT, sS, by rfl, by rfl⟩ ?_
              · rintro n _ _ x hx1 hF
                (conv => arg 7; whnf); (conv => arg 8; whnf); (conv => arg 9; whnf)
                refine st1 ?_
                rcases e_bif hF with ⟨hb37, hF⟩ | ⟨hb37, hF⟩ <;> (first | rw [hb37] | (conv => arg 7; rw [hb37]))
                · refine st1 ?_
                  obtain ⟨_, h, hF⟩ := e_bind hF
                  (first | refine o_ia (enc := eTHullHold) (s := 2) h (fun _ => rfl) (by decide) ?_ | refine o_iaT (enc := eTHullHold) (s := 2) h (fun _ => rfl) (by decide) ?_)
                  intro _
                  refine st1 ?_
                  obtain ⟨_, h, hF⟩ := e_bind hF
                  (first | refine g_call h lv1 ?_ | refine g_callT h lv1 ?_)
                  (conv => arg 1; whnf)
                  refine st1 ?_
                  rcases e_bif hF with ⟨hb38, hF⟩ | ⟨hb38, hF⟩ <;> (first | rw [hb38] | (conv => arg 7; rw [hb38]))
                  · refine st1 ?_
                    have hF := e_some hF
                    have hq : some _ = some _ := hF
                    cases hq
                    exact en1
                  · refine st1 ?_
                    obtain ⟨_, h, hF⟩ := e_bind hF
                    (first | refine o_ia (enc := eTHullHold) (s := 2) h (fun _ => rfl) (by decide) ?_ | refine o_iaT (enc := eTHullHold) (s := 2) h (fun _ => rfl) (by decide) ?_)
                    intro _
                    refine st1 ?_
                    obtain ⟨_, h, hF⟩ := e_bind hF
                    (first | refine g_call h lv1 ?_ | refine g_callT h lv1 ?_)
                    (conv => arg 1; whnf)
                    refine st1 ?_
                    rcases e_bif hF with ⟨hb39, hF⟩ | ⟨hb39, hF⟩ <;> (first | rw [hb39] | (conv => arg 7; rw [hb39]))
                    · refine st1 ?_
                      have hF := e_some hF
                      have hq : some _ = some _ := hF
                      cases hq
                      exact en1
                    · refine st1 ?_
                      exact k_loopF (e_some hF) hx1 () [(0, _)] ⟨sT, sS, by rfl, by rfl⟩
                · refine st1 ?_
                  have hF := e_some hF
                  have hq : some _ = some _ := hF
                  cases hq
                  exact en1


@[reducible] noncomputable def c_thalwegref02_Length : Con := conF F_thalwegref02_Length (fun x => match x with | (a0) => [(V.agg (eTHull a0))]) (fun r => (V.v (.int .i64 (r))))
theorem h_thalwegref02_Length : Has Tryz.prog 58 c_thalwegref02_Length := by
  refine hasF ctx_nil mix Tryz.func58 rfl (by kernel_rfl) ?_
  rintro a0 r hF
  refine ⟨of_decide_eq_true rfl, ?_⟩
  refine st1 ?_
  refine st_loopF (e_assoc hF) () [(0, _)] ⟨sT, sS, by rfl, by rfl⟩ ?_
  · rintro n ⟨_, _⟩ _ x hx1 hF
    (conv => arg 7; whnf); (conv => arg 8; whnf); (conv => arg 9; whnf)
    refine st1 ?_
    rcases e_bif hF with ⟨hb3, hF⟩ | ⟨hb3, hF⟩ <;> (first | rw [hb3] | (conv => arg 7; rw [hb3]))
    · refine st1 ?_
      obtain ⟨_, h, hF⟩ := e_bind hF
      (first | refine o_ia (enc := eTHullSection) (s := 5) h (fun _ => rfl) (by decide) ?_ | refine o_iaT (enc := eTHullSection) (s := 5) h (fun _ => rfl) (by decide) ?_)
      intro _
      refine st1 ?_
      exact k_loopF (e_some hF) hx1 () [(0, _)] ⟨sT, sS, by rfl, by rfl⟩
    · refine st1 ?_
      have hF := e_some hF
      have hq : some _ = some _ := hF
      cases hq
      exact en1


@[reducible] noncomputable def c_thalwegref02_Hull : Con := conF F_thalwegref02_Hull (fun x => match x with | (a0) => [(V.agg (eTHull a0))]) (fun r => (V.v (.bool (r))))
theorem h_thalwegref02_Hull : Has Tryz.prog 18 c_thalwegref02_Hull := by
  refine hasF (ctx_cons h_thalwegref02_Length (ctx_cons h_thalwegref02_Section (ctx_cons h_thalwegref01_In (ctx_cons h_thalwegref02_Holds ctx_nil)))) mix Tryz.func18 rfl (by kernel_rfl) ?_
  rintro a0 r hF
  refine ⟨of_decide_eq_true rfl, ?_⟩
  refine st1 ?_
  obtain ⟨_, h, hF⟩ := e_bind hF
  (first | refine g_call h lv1 ?_ | refine g_callT h lv1 ?_)
  (conv => arg 1; whnf)
  refine st1 ?_
  rcases e_bif hF with ⟨hb1, hF⟩ | ⟨hb1, hF⟩ <;> (first | rw [hb1] | (conv => arg 7; rw [hb1]))
  · refine st1 ?_
    have hq : some _ = some _ := hF
    cases hq
    exact en1
  · refine st1 ?_
    obtain ⟨_, h, hF⟩ := e_bind hF
    (first | refine g_call h lv1 ?_ | refine g_callT h lv1 ?_)
    (conv => arg 1; whnf)
    refine st1 ?_
    rcases e_bif hF with ⟨hb2, hF⟩ | ⟨hb2, hF⟩ <;> (first | rw [hb2] | (conv => arg 7; rw [hb2]))
    · refine st1 ?_
      have hq : some _ = some _ := hF
      cases hq
      exact en1
    · refine st1 ?_
      refine st_loopF (e_assoc hF) () [(0, _)] ⟨sT, sS, by rfl, by rfl⟩ ?_
      · rintro n _ _ x hx1 hF
        (conv => arg 7; whnf); (conv => arg 8; whnf); (conv => arg 9; whnf)
        refine st1 ?_
        rcases e_bif hF with ⟨hb7, hF⟩ | ⟨hb7, hF⟩ <;> (first | rw [hb7] | (conv => arg 7; rw [hb7]))
        · refine st1 ?_
          obtain ⟨_, h, hF⟩ := e_bind hF
          (first | refine o_ia (enc := eTHullSection) (s := 5) h (fun _ => rfl) (by decide) ?_ | refine o_iaT (enc := eTHullSection) (s := 5) h (fun _ => rfl) (by decide) ?_)
          intro _
          refine st1 ?_
          obtain ⟨_, h, hF⟩ := e_bind hF
          (first | refine g_call h lv1 ?_ | refine g_callT h lv1 ?_)
          (conv => arg 1; whnf)
          refine st1 ?_
          rcases e_bif hF with ⟨hb8, hF⟩ | ⟨hb8, hF⟩ <;> (first | rw [hb8] | (conv => arg 7; rw [hb8]))
          · refine st1 ?_
            have hF := e_some hF
            have hq : some _ = some _ := hF
            cases hq
            exact en1
          · refine st1 ?_
            exact k_loopF (e_some hF) hx1 () [(0, _)] ⟨sT, sS, by rfl, by rfl⟩
        · refine st1 ?_
          have hF := e_some hF
          obtain ⟨_, h, hF⟩ := e_bind hF
          (first | refine g_call h lv1 ?_ | refine g_callT h lv1 ?_)
          (conv => arg 1; whnf)
          refine st1 ?_
          rcases e_bif hF with ⟨hb9, hF⟩ | ⟨hb9, hF⟩ <;> (first | rw [hb9] | (conv => arg 7; rw [hb9]))
          · refine st1 ?_
            obtain ⟨_, h, hF⟩ := e_bind hF
            (first | refine g_call h lv1 ?_ | refine g_callT h lv1 ?_)
            (conv => arg 1; whnf)
            refine st1 ?_
            have hq : some _ = some _ := hF
            cases hq
            exact en1
          · refine st1 ?_
            have hq : some _ = some _ := hF
            cases hq
            exact en1


@[reducible] noncomputable def c_thalwegref02_Limit : Con := conF F_thalwegref02_Limit (fun x => match x with | (a0) => [(V.agg (eTHull a0))]) (fun r => (V.v (.int .i64 (r))))
theorem h_thalwegref02_Limit : Has Tryz.prog 19 c_thalwegref02_Limit := by
  refine hasF ctx_nil mix Tryz.func19 rfl (by kernel_rfl) ?_
  rintro a0 r hF
  refine ⟨of_decide_eq_true rfl, ?_⟩
  refine st1 ?_
  refine st_loopF (e_assoc hF) () [(0, _)] ⟨sT, sS, by rfl, by rfl⟩ ?_
  · rintro n ⟨_, _⟩ _ x hx1 hF
    (conv => arg 7; whnf); (conv => arg 8; whnf); (conv => arg 9; whnf)
    refine st1 ?_
    rcases e_bif hF with ⟨hb3, hF⟩ | ⟨hb3, hF⟩ <;> (first | rw [hb3] | (conv => arg 7; rw [hb3]))
    · refine st1 ?_
      obtain ⟨_, h, hF⟩ := e_bind hF
      (first | refine o_ia (enc := eTHullSection) (s := 5) h (fun _ => rfl) (by decide) ?_ | refine o_iaT (enc := eTHullSection) (s := 5) h (fun _ => rfl) (by decide) ?_)
      intro _
      refine st1 ?_
      obtain ⟨_, h, hF⟩ := e_bind hF
      (first | refine o_ia (enc := eTHullRow) (s := 2) h (fun _ => rfl) (by decide) ?_ | refine o_iaT (enc := eTHullRow) (s := 2) h (fun _ => rfl) (by decide) ?_)
      intro _
      refine st1 ?_
      exact k_loopF (e_some hF) hx1 () [(0, _)] ⟨sT, sS, by rfl, by rfl⟩
    · refine st1 ?_
      have hF := e_some hF
      have hq : some _ = some _ := hF
      cases hq
      exact en1


@[reducible] noncomputable def c_thalwegref02_Volume : Con := conF F_thalwegref02_Volume (fun x => match x with | (a0, a1) => [(V.agg (eTHull a0)), (V.v (.int .i64 (a1)))]) (fun r => (V.v (.int .i64 (r))))
theorem h_thalwegref02_Volume : Has Tryz.prog 20 c_thalwegref02_Volume := by
  refine hasF ctx_nil mix Tryz.func20 rfl (by kernel_rfl) ?_
  rintro ⟨a0, a1⟩ r hF
  refine ⟨of_decide_eq_true rfl, ?_⟩
  refine st1 ?_
  refine st_loopF (e_assoc hF) () [(0, _)] ⟨sT, sS, by rfl, by rfl⟩ ?_
  · rintro n ⟨_, _⟩ _ x hx1 hF
    (conv => arg 7; whnf); (conv => arg 8; whnf); (conv => arg 9; whnf)
    refine st1 ?_
    rcases e_bif hF with ⟨hb9, hF⟩ | ⟨hb9, hF⟩ <;> (first | rw [hb9] | (conv => arg 7; rw [hb9]))
    · refine st1 ?_
      obtain ⟨_, h, hF⟩ := e_bind hF
      (first | refine o_ia (enc := eTHullSection) (s := 5) h (fun _ => rfl) (by decide) ?_ | refine o_iaT (enc := eTHullSection) (s := 5) h (fun _ => rfl) (by decide) ?_)
      intro _
      refine st1 ?_
      refine st_loopF (e_assoc hF) () [(0, _)] ⟨sT, sS, by rfl, by rfl⟩ ?_
      · rintro n _ _ x hx2 hF
        (conv => arg 7; whnf); (conv => arg 8; whnf); (conv => arg 9; whnf)
        refine st1 ?_
        obtain ⟨_, h, hF⟩ := e_bind hF
        (first | refine o_ia (enc := eTHullRow) (s := 2) h (fun _ => rfl) (by decide) ?_ | refine o_iaT (enc := eTHullRow) (s := 2) h (fun _ => rfl) (by decide) ?_)
        intro _
        refine st1 ?_
        rcases e_bif hF with ⟨hb12, hF⟩ | ⟨hb12, hF⟩ <;> (first | rw [hb12] | (conv => arg 7; rw [hb12]))
        · refine st1 ?_
          exact k_loopF (e_some hF) hx2 () [(0, _)] ⟨sT, sS, by rfl, by rfl⟩
        · refine st1 ?_
          have hF := e_some hF
          obtain ⟨_, h, hF⟩ := e_bind hF
          (first | refine o_ia (enc := eTHullRow) (s := 2) h (fun _ => rfl) (by decide) ?_ | refine o_iaT (enc := eTHullRow) (s := 2) h (fun _ => rfl) (by decide) ?_)
          intro _
          refine st1 ?_
          obtain ⟨_, h, hF⟩ := e_bind hF
          (first | refine o_ia (enc := eTHullRow) (s := 2) h (fun _ => rfl) (by decide) ?_ | refine o_iaT (enc := eTHullRow) (s := 2) h (fun _ => rfl) (by decide) ?_)
          intro _
          refine st1 ?_
          obtain ⟨_, h, hF⟩ := e_bind hF
          (first | refine go_req (nz_ne h) ?_ | refine goT_req (nz_ne h) ?_)
          (conv => arg 1; whnf)
          refine st1 ?_
          exact k_loopF (e_some hF) hx1 () [(0, _)] ⟨sT, sS, by rfl, by rfl⟩
    · refine st1 ?_
      have hF := e_some hF
      have hq : some _ = some _ := hF
      cases hq
      exact en1


@[reducible] noncomputable def c_thalwegref01_Valid : Con := conF F_thalwegref01_Valid (fun x => match x with | (a0, a1, a2) => [(V.agg (eTBounds a0)), (V.v (.int .i64 (a1))), (V.v (.int .i64 (a2)))]) (fun r => (V.v (.bool (r))))
theorem h_thalwegref01_Valid : Has Tryz.prog 71 c_thalwegref01_Valid := by
  refine hasF (ctx_cons h_thalwegref01_In ctx_nil) mix Tryz.func71 rfl (by kernel_rfl) ?_
  rintro ⟨a0, a1, a2⟩ r hF
  refine ⟨of_decide_eq_true rfl, ?_⟩
  refine st1 ?_
  obtain ⟨_, h, hF⟩ := e_bind hF
  (first | refine g_call h lv1 ?_ | refine g_callT h lv1 ?_)
  (conv => arg 1; whnf)
  refine st1 ?_
  rcases e_bif hF with ⟨hb1, hF⟩ | ⟨hb1, hF⟩ <;> (first | rw [hb1] | (conv => arg 7; rw [hb1]))
  · refine st1 ?_
    obtain ⟨_, h, hF⟩ := e_bind hF
    (first | refine g_call h lv1 ?_ | refine g_callT h lv1 ?_)
    (conv => arg 1; whnf)
    refine st1 ?_
    have hq : some _ = some _ := hF
    cases hq
    exact en1
  · refine st1 ?_
    have hq : some _ = some _ := hF
    cases hq
    exact en1


@[reducible] noncomputable def c_thalwegref02_Density : Con := conF F_thalwegref02_Density (fun x => match x with | (a0) => [(V.agg (eTBounds a0))]) (fun r => (V.v (.bool (r))))
theorem h_thalwegref02_Density : Has Tryz.prog 33 c_thalwegref02_Density := by
  refine hasF (ctx_cons h_thalwegref01_Valid ctx_nil) mix Tryz.func33 rfl (by kernel_rfl) ?_
  rintro a0 r hF
  refine ⟨of_decide_eq_true rfl, ?_⟩
  refine st1 ?_
  obtain ⟨_, h, hF⟩ := e_bind hF
  (first | refine g_call h lv1 ?_ | refine g_callT h lv1 ?_)
  (conv => arg 1; whnf)
  refine st1 ?_
  have hq : some _ = some _ := hF
  cases hq
  exact en1


@[reducible] noncomputable def c_thalwegref02_Load : Con := conF F_thalwegref02_Load (fun x => match x with | (a0, a1, a2) => [(V.agg (eTHull a0)), (V.sl (recs (eI .i64) (a1)) (a1).length), (V.agg (eTBounds a2))]) (fun r => (V.v (.int .i64 (r))))
theorem h_thalwegref02_Load : Has Tryz.prog 21 c_thalwegref02_Load := by
  refine hasF (ctx_cons h_thalwegref01_In (ctx_cons h_thalwegref02_Density (ctx_cons h_thalwegref02_Holds (ctx_cons h_thalwegref02_Hull ctx_nil)))) mix Tryz.func21 rfl (by kernel_rfl) ?_
  rintro ⟨a0, a1, a2⟩ r hF
  refine ⟨of_decide_eq_true rfl, ?_⟩
  refine st1 ?_
  obtain ⟨_, h, hF⟩ := e_bind hF
  (first | refine g_call h lv1 ?_ | refine g_callT h lv1 ?_)
  (conv => arg 1; whnf)
  refine st1 ?_
  rcases e_bif hF with ⟨hb1, hF⟩ | ⟨hb1, hF⟩ <;> (first | rw [hb1] | (conv => arg 7; rw [hb1]))
  · refine st1 ?_
    have hq : some _ = some _ := hF
    cases hq
    exact en1
  · refine st1 ?_
    obtain ⟨_, h, hF⟩ := e_bind hF
    (first | refine g_call h lv1 ?_ | refine g_callT h lv1 ?_)
    (conv => arg 1; whnf)
    refine st1 ?_
    rcases e_bif hF with ⟨hb2, hF⟩ | ⟨hb2, hF⟩ <;> (first | rw [hb2] | (conv => arg 7; rw [hb2]))
    · refine st1 ?_
      have hq : some _ = some _ := hF
      cases hq
      exact en1
    · refine st1 ?_
      refine st_loopF (e_assoc hF) () [(1, _)] ⟨sT, sS, by rfl, by rfl⟩ ?_
      · rintro n _ _ x hx1 hF
        (conv => arg 7; whnf); (conv => arg 8; whnf); (conv => arg 9; whnf)
        refine st1 ?_
        rcases e_bif hF with ⟨hb7, hF⟩ | ⟨hb7, hF⟩ <;> (first | rw [hb7] | (conv => arg 7; rw [hb7]))
        · refine st1 ?_
          obtain ⟨_, h, hF⟩ := e_bind hF
          (first | refine o_ia (enc := (eI .i64)) (s := 1) h (fun _ => rfl) (by decide) ?_ | refine o_iaT (enc := (eI .i64)) (s := 1) h (fun _ => rfl) (by decide) ?_)
          intro _
          refine st1 ?_
          obtain ⟨_, h, hF⟩ := e_bind hF
          (first | refine o_ia (enc := eTHullHold) (s := 2) h (fun _ => rfl) (by decide) ?_ | refine o_iaT (enc := eTHullHold) (s := 2) h (fun _ => rfl) (by decide) ?_)
          intro _
          refine st1 ?_
          obtain ⟨_, h, hF⟩ := e_bind hF
          (first | refine g_call h lv1 ?_ | refine g_callT h lv1 ?_)
          (conv => arg 1; whnf)
          refine st1 ?_
          rcases e_bif hF with ⟨hb8, hF⟩ | ⟨hb8, hF⟩ <;> (first | rw [hb8] | (conv => arg 7; rw [hb8]))
          · refine st1 ?_
            have hF := e_some hF
            have hq : some _ = some _ := hF
            cases hq
            exact en1
          · refine st1 ?_
            exact k_loopF (e_some hF) hx1 () [(1, _)] ⟨sT, sS, by rfl, by rfl⟩
        · refine st1 ?_
          have hF := e_some hF
          obtain ⟨_, h, hF⟩ := e_bind hF
          (first | refine g_call h lv1 ?_ | refine g_callT h lv1 ?_)
          (conv => arg 1; whnf)
          refine st1 ?_
          rcases e_bif hF with ⟨hb9, hF⟩ | ⟨hb9, hF⟩ <;> (first | rw [hb9] | (conv => arg 7; rw [hb9]))
          · refine st1 ?_
            have hq : some _ = some _ := hF
            cases hq
            exact en1
          · refine st1 ?_
            have hq : some _ = some _ := hF
            cases hq
            exact en1


@[reducible] noncomputable def c_thalwegref01_Ceil : Con := conF F_thalwegref01_Ceil (fun x => match x with | (a0, a1) => [(V.v (.int .i64 (a0))), (V.v (.int .i64 (a1)))]) (fun r => (V.v (.int .i64 (r))))
theorem h_thalwegref01_Ceil : Has Tryz.prog 97 c_thalwegref01_Ceil := by
  refine hasF ctx_nil mix Tryz.func97 rfl (by kernel_rfl) ?_
  rintro ⟨a0, a1⟩ r hF
  refine ⟨of_decide_eq_true rfl, ?_⟩
  refine st1 ?_
  obtain ⟨_, h, hF⟩ := e_bind hF
  (first | refine go_req (nz_ne h) ?_ | refine goT_req (nz_ne h) ?_)
  (conv => arg 1; whnf)
  refine st1 ?_
  rcases e_bif hF with ⟨hb1, hF⟩ | ⟨hb1, hF⟩ <;> (first | rw [hb1] | (conv => arg 7; rw [hb1]))
  · refine st1 ?_
    have hq : some _ = some _ := hF
    cases hq
    exact en1
  · refine st1 ?_
    have hq : some _ = some _ := hF
    cases hq
    exact en1


@[reducible] noncomputable def c_thalwegref02_Mass : Con := conF F_thalwegref02_Mass (fun x => match x with | (a0, a1) => [(V.agg (eTHull a0)), (V.sl (recs (eI .i64) (a1)) (a1).length)]) (fun r => (V.v (.int .i64 (r))))
theorem h_thalwegref02_Mass : Has Tryz.prog 98 c_thalwegref02_Mass := by
  refine hasF ctx_nil mix Tryz.func98 rfl (by kernel_rfl) ?_
  rintro ⟨a0, a1⟩ r hF
  refine ⟨of_decide_eq_true rfl, ?_⟩
  refine st1 ?_
  refine st_loopF (e_assoc hF) () [(0, _)] ⟨sT, sS, by rfl, by rfl⟩ ?_
  · rintro n ⟨_, _⟩ _ x hx1 hF
    (conv => arg 7; whnf); (conv => arg 8; whnf); (conv => arg 9; whnf)
    refine st1 ?_
    rcases e_bif hF with ⟨hb3, hF⟩ | ⟨hb3, hF⟩ <;> (first | rw [hb3] | (conv => arg 7; rw [hb3]))
    · refine st1 ?_
      obtain ⟨_, h, hF⟩ := e_bind hF
      (first | refine o_ia (enc := eTHullSection) (s := 5) h (fun _ => rfl) (by decide) ?_ | refine o_iaT (enc := eTHullSection) (s := 5) h (fun _ => rfl) (by decide) ?_)
      intro _
      refine st1 ?_
      exact k_loopF (e_some hF) hx1 () [(0, _)] ⟨sT, sS, by rfl, by rfl⟩
    · refine st1 ?_
      have hF := e_some hF
      refine st_loopF (e_assoc hF) () [(0, _)] ⟨sT, sS, by rfl, by rfl⟩ ?_
      · rintro n ⟨_, _⟩ _ x hx1 hF
        (conv => arg 7; whnf); (conv => arg 8; whnf); (conv => arg 9; whnf)
        refine st1 ?_
        rcases e_bif hF with ⟨hb6, hF⟩ | ⟨hb6, hF⟩ <;> (first | rw [hb6] | (conv => arg 7; rw [hb6]))
        · refine st1 ?_
          obtain ⟨_, h, hF⟩ := e_bind hF
          (first | refine o_ia (enc := (eI .i64)) (s := 1) h (fun _ => rfl) (by decide) ?_ | refine o_iaT (enc := (eI .i64)) (s := 1) h (fun _ => rfl) (by decide) ?_)
          intro _
          refine st1 ?_
          exact k_loopF (e_some hF) hx1 () [(0, _)] ⟨sT, sS, by rfl, by rfl⟩
        · refine st1 ?_
          have hF := e_some hF
          have hq : some _ = some _ := hF
          cases hq
          exact en1


@[reducible] noncomputable def c_thalwegref02_Mean : Con := conF F_thalwegref02_Mean (fun x => match x with | (a0, a1, a2) => [(V.agg (eTHull a0)), (V.sl (recs (eI .i64) (a1)) (a1).length), (V.v (.int .i64 (a2)))]) (fun r => (V.v (.int .i64 (r))))
theorem h_thalwegref02_Mean : Has Tryz.prog 59 c_thalwegref02_Mean := by
  refine hasF (ctx_cons h_thalwegref02_Mass (ctx_cons h_thalwegref01_Ceil (ctx_cons h_thalwegref02_Volume (ctx_cons h_thalwegref02_Limit ctx_nil)))) mix Tryz.func59 rfl (by kernel_rfl) ?_
  rintro ⟨a0, a1, a2⟩ r hF
  refine ⟨of_decide_eq_true rfl, ?_⟩
  refine st1 ?_
  obtain ⟨_, h, hF⟩ := e_bind hF
  (first | refine g_call h lv1 ?_ | refine g_callT h lv1 ?_)
  (conv => arg 1; whnf)
  refine st1 ?_
  obtain ⟨_, h, hF⟩ := e_bind hF
  (first | refine g_call h lv1 ?_ | refine g_callT h lv1 ?_)
  (conv => arg 1; whnf)
  refine st1 ?_
  refine st_loopF (e_assoc hF) () [(0, _)] ⟨sT, sS, by rfl, by rfl⟩ ?_
  · rintro n _ _ x hx1 hF
    (conv => arg 7; whnf); (conv => arg 8; whnf); (conv => arg 9; whnf)
    refine st1 ?_
    obtain ⟨_, h, hF⟩ := e_bind hF
    (first | refine g_call h lv1 ?_ | refine g_callT h lv1 ?_)
    (conv => arg 1; whnf)
    refine st1 ?_
    rcases e_bif hF with ⟨hb5, hF⟩ | ⟨hb5, hF⟩ <;> (first | rw [hb5] | (conv => arg 7; rw [hb5]))
    · refine st1 ?_
      obtain ⟨_, h, hF⟩ := e_bind hF
      (first | refine g_call h lv1 ?_ | refine g_callT h lv1 ?_)
      (conv => arg 1; whnf)
      refine st1 ?_
      rcases e_bif hF with ⟨hb6, hF⟩ | ⟨hb6, hF⟩ <;> (first | rw [hb6] | (conv => arg 7; rw [hb6]))
      · refine st1 ?_
        have hF := e_some hF
        have hq : some _ = some _ := hF
        cases hq
        exact en1
      · refine st1 ?_
        exact k_loopF (e_some hF) hx1 () [(0, _)] ⟨sT, sS, by rfl, by rfl⟩
    · refine st1 ?_
      have hF := e_some hF
      have hq : some _ = some _ := hF
      cases hq
      exact en1


@[reducible] noncomputable def c_thalwegref02_Moment : Con := conF F_thalwegref02_Moment (fun x => match x with | (a0, a1) => [(V.agg (eTHull a0)), (V.sl (recs (eI .i64) (a1)) (a1).length)]) (fun r => (V.v (.int .i64 (r))))
theorem h_thalwegref02_Moment : Has Tryz.prog 61 c_thalwegref02_Moment := by
  refine hasF (ctx_cons h_thalwegref02_Length (ctx_cons h_thalwegref02_Holds ctx_nil)) mix Tryz.func61 rfl (by kernel_rfl) ?_
  rintro ⟨a0, a1⟩ r hF
  refine ⟨of_decide_eq_true rfl, ?_⟩
  refine st1 ?_
  obtain ⟨_, h, hF⟩ := e_bind hF
  (first | refine g_call h lv1 ?_ | refine g_callT h lv1 ?_)
  (conv => arg 1; whnf)
  refine st1 ?_
  obtain ⟨_, h, hF⟩ := e_bind hF
  (first | refine g_call h lv1 ?_ | refine g_callT h lv1 ?_)
  (conv => arg 1; whnf)
  refine st1 ?_
  refine st_loopF (e_assoc hF) () [(0, _)] ⟨sT, sS, by rfl, by rfl⟩ ?_
  · rintro n ⟨_, _, _⟩ _ x hx1 hF
    (conv => arg 7; whnf); (conv => arg 8; whnf); (conv => arg 9; whnf)
    refine st1 ?_
    rcases e_bif hF with ⟨hb3, hF⟩ | ⟨hb3, hF⟩ <;> (first | rw [hb3] | (conv => arg 7; rw [hb3]))
    · refine st1 ?_
      obtain ⟨_, h, hF⟩ := e_bind hF
      (first | refine o_ia (enc := eTHullSection) (s := 5) h (fun _ => rfl) (by decide) ?_ | refine o_iaT (enc := eTHullSection) (s := 5) h (fun _ => rfl) (by decide) ?_)
      intro _
      refine st1 ?_
      exact k_loopF (e_some hF) hx1 () [(0, _)] ⟨sT, sS, by rfl, by rfl⟩
    · refine st1 ?_
      have hF := e_some hF
      refine st_loopF (e_assoc hF) () [(0, _)] ⟨sT, sS, by rfl, by rfl⟩ ?_
      · rintro n ⟨_, _⟩ _ x hx1 hF
        (conv => arg 7; whnf); (conv => arg 8; whnf); (conv => arg 9; whnf)
        refine st1 ?_
        rcases e_bif hF with ⟨hb6, hF⟩ | ⟨hb6, hF⟩ <;> (first | rw [hb6] | (conv => arg 7; rw [hb6]))
        · refine st1 ?_
          obtain ⟨_, h, hF⟩ := e_bind hF
          (first | refine o_ia (enc := (eI .i64)) (s := 1) h (fun _ => rfl) (by decide) ?_ | refine o_iaT (enc := (eI .i64)) (s := 1) h (fun _ => rfl) (by decide) ?_)
          intro _
          refine st1 ?_
          obtain ⟨_, h, hF⟩ := e_bind hF
          (first | refine o_ia (enc := eTHullHold) (s := 2) h (fun _ => rfl) (by decide) ?_ | refine o_iaT (enc := eTHullHold) (s := 2) h (fun _ => rfl) (by decide) ?_)
          intro _
          refine st1 ?_
          exact k_loopF (e_some hF) hx1 () [(0, _)] ⟨sT, sS, by rfl, by rfl⟩
        · refine st1 ?_
          have hF := e_some hF
          have hq : some _ = some _ := hF
          cases hq
          exact en1


@[reducible] noncomputable def c_thalwegref02_Trim : Con := conF F_thalwegref02_Trim (fun x => match x with | (a0, a1) => [(V.agg (eTHull a0)), (V.sl (recs (eI .i64) (a1)) (a1).length)]) (fun r => (V.v (.int .i64 (r))))
theorem h_thalwegref02_Trim : Has Tryz.prog 60 c_thalwegref02_Trim := by
  refine hasF (ctx_cons h_thalwegref01_Ceil (ctx_cons h_thalwegref02_Moment ctx_nil)) mix Tryz.func60 rfl (by kernel_rfl) ?_
  rintro ⟨a0, a1⟩ r hF
  refine ⟨of_decide_eq_true rfl, ?_⟩
  refine st1 ?_
  obtain ⟨_, h, hF⟩ := e_bind hF
  (first | refine g_call h lv1 ?_ | refine g_callT h lv1 ?_)
  (conv => arg 1; whnf)
  refine st1 ?_
  refine st_loopF (e_assoc hF) () [(0, _)] ⟨sT, sS, by rfl, by rfl⟩ ?_
  · rintro n ⟨_, _⟩ _ x hx1 hF
    (conv => arg 7; whnf); (conv => arg 8; whnf); (conv => arg 9; whnf)
    refine st1 ?_
    rcases e_bif hF with ⟨hb3, hF⟩ | ⟨hb3, hF⟩ <;> (first | rw [hb3] | (conv => arg 7; rw [hb3]))
    · refine st1 ?_
      obtain ⟨_, h, hF⟩ := e_bind hF
      (first | refine o_ia (enc := eTHullSection) (s := 5) h (fun _ => rfl) (by decide) ?_ | refine o_iaT (enc := eTHullSection) (s := 5) h (fun _ => rfl) (by decide) ?_)
      intro _
      refine st1 ?_
      exact k_loopF (e_some hF) hx1 () [(0, _)] ⟨sT, sS, by rfl, by rfl⟩
    · refine st1 ?_
      have hF := e_some hF
      obtain ⟨_, h, hF⟩ := e_bind hF
      (first | refine g_call h lv1 ?_ | refine g_callT h lv1 ?_)
      (conv => arg 1; whnf)
      refine st1 ?_
      have hq : some _ = some _ := hF
      cases hq
      exact en1


@[reducible] noncomputable def c_thalwegref02_Float : Con := conF F_thalwegref02_Float (fun x => match x with | (a0, a1, a2) => [(V.agg (eTHull a0)), (V.sl (recs (eI .i64) (a1)) (a1).length), (V.agg (eTBounds a2))]) (fun r => V.tup [(V.agg (eTHullFloat r.1)), (V.v (.bool (r.2)))])
theorem h_thalwegref02_Float : Has Tryz.prog 22 c_thalwegref02_Float := by
  refine hasF (ctx_cons h_thalwegref02_Moment (ctx_cons h_thalwegref02_Trim (ctx_cons h_thalwegref02_Mean (ctx_cons h_thalwegref02_Limit ctx_nil)))) mix Tryz.func22 rfl (by kernel_rfl) ?_
  rintro ⟨a0, a1, a2⟩ r hF
  refine ⟨of_decide_eq_true rfl, ?_⟩
  refine st1 ?_
  obtain ⟨_, h, hF⟩ := e_bind hF
  (first | refine g_call h lv1 ?_ | refine g_callT h lv1 ?_)
  (conv => arg 1; whnf)
  refine st1 ?_
  obtain ⟨_, h, hF⟩ := e_bind hF
  (first | refine g_call h lv1 ?_ | refine g_callT h lv1 ?_)
  (conv => arg 1; whnf)
  refine st1 ?_
  obtain ⟨_, h, hF⟩ := e_bind hF
  (first | refine g_call h lv1 ?_ | refine g_callT h lv1 ?_)
  (conv => arg 1; whnf)
  refine st1 ?_
  obtain ⟨_, h, hF⟩ := e_bind hF
  (first | refine g_call h lv1 ?_ | refine g_callT h lv1 ?_)
  (conv => arg 1; whnf)
  refine st1 ?_
  rcases e_bif hF with ⟨hb1, hF⟩ | ⟨hb1, hF⟩ <;> (first | rw [hb1] | (conv => arg 7; rw [hb1]))
  · refine st1 ?_
    have hq : some _ = some _ := hF
    cases hq
    exact en1
  · refine st1 ?_
    obtain ⟨_, h, hF⟩ := e_bind hF
    (first | refine g_call h lv1 ?_ | refine g_callT h lv1 ?_)
    (conv => arg 1; whnf)
    refine st1 ?_
    rcases e_bif hF with ⟨hb2, hF⟩ | ⟨hb2, hF⟩ <;> (first | rw [hb2] | (conv => arg 7; rw [hb2]))
    · refine st1 ?_
      have hq : some _ = some _ := hF
      cases hq
      exact en1
    · refine st1 ?_
      rcases e_bif hF with ⟨hb3, hF⟩ | ⟨hb3, hF⟩ <;> (first | rw [hb3] | (conv => arg 7; rw [hb3]))
      · refine st1 ?_
        rcases e_bif hF with ⟨hb4, hF⟩ | ⟨hb4, hF⟩ <;> (first | rw [hb4] | (conv => arg 7; rw [hb4]))
        · refine st1 ?_
          have hq : some _ = some _ := hF
          cases hq
          exact en1
        · refine st1 ?_
          have hq : some _ = some _ := hF
          cases hq
          exact en1
      · refine st1 ?_
        rcases e_bif hF with ⟨hb5, hF⟩ | ⟨hb5, hF⟩ <;> (first | rw [hb5] | (conv => arg 7; rw [hb5]))
        · refine st1 ?_
          have hq : some _ = some _ := hF
          cases hq
          exact en1
        · refine st1 ?_
          have hq : some _ = some _ := hF
          cases hq
          exact en1


@[reducible] noncomputable def c_thalweglaw02_HullFloats : Con := conF F_thalweglaw02_HullFloats (fun x => match x with | (a0, a1) => [(V.agg (eTthalweglaw02_Loaded a0)), (V.v (.int .i64 (a1)))]) (fun r => (V.v (.bool (r))))
theorem fl_thalweglaw02_HullFloats_39 : flatOf Tryz.prog 9 39 = some [true, true, true, true, true] := by kernel_rfl
theorem eg_thalweglaw02_HullFloats_39 : Tryz.prog.eqGuardType Tryz.prog.depth 39 = false := by kernel_rfl
theorem ag_thalweglaw02_HullFloats_39 : aggOf Tryz.prog 39 = some true := by kernel_rfl
theorem h_thalweglaw02_HullFloats : Has Tryz.prog 3 c_thalweglaw02_HullFloats := by
  refine hasF (ctx_cons h_thalwegref02_Float (ctx_cons h_thalwegref02_Load (ctx_cons h_thalwegref02_Volume (ctx_cons h_thalwegref02_Limit (ctx_cons h_thalwegref02_Hull (ctx_cons h_thalweglaw02_equal (ctx_cons h_thalweglaw02_same (ctx_cons h_hull_Float (ctx_cons h_hull_Volume (ctx_cons h_hull_Check (ctx_cons h_thalweglaw02_numbers (ctx_cons h_thalweglaw02_own (ctx_cons h_thalweglaw02_known (ctx_cons h_thalweglaw02_great ctx_nil)))))))))))))) mix Tryz.func3 rfl (by kernel_rfl) ?_
  rintro ⟨a0, a1⟩ r hF
  refine ⟨of_decide_eq_true rfl, ?_⟩
  refine st1 ?_
  obtain ⟨_, h, hF⟩ := e_bind hF
  (first | refine g_call h lv1 ?_ | refine g_callT h lv1 ?_)
  (conv => arg 1; whnf)
  refine st1 ?_
  rcases e_bif hF with ⟨hb1, hF⟩ | ⟨hb1, hF⟩ <;> (first | rw [hb1] | (conv => arg 7; rw [hb1]))
  · refine st1 ?_
    obtain ⟨_, h, hF⟩ := e_bind hF
    (first | refine g_call h lv1 ?_ | refine g_callT h lv1 ?_)
    (conv => arg 1; whnf)
    refine st1 ?_
    have hq : some _ = some _ := hF
    cases hq
    exact en1
  · refine st1 ?_
    rcases e_bif hF with ⟨hb2, hF⟩ | ⟨hb2, hF⟩ <;> (first | rw [hb2] | (conv => arg 7; rw [hb2]))
    · refine st1 ?_
      obtain ⟨_, h, hF⟩ := e_bind hF
      (first | refine g_call h lv1 ?_ | refine g_callT h lv1 ?_)
      (conv => arg 1; whnf)
      refine st1 ?_
      have hq : some _ = some _ := hF
      cases hq
      exact en1
    · refine st1 ?_
      obtain ⟨_, h, hF⟩ := e_bind hF
      (first | refine g_call h lv1 ?_ | refine g_callT h lv1 ?_)
      (conv => arg 1; whnf)
      refine st1 ?_
      obtain ⟨_, h, hF⟩ := e_bind hF
      (first | refine g_call h lv1 ?_ | refine g_callT h lv1 ?_)
      (conv => arg 1; whnf)
      refine st1 ?_
      obtain ⟨_, h, hF⟩ := e_bind hF
      (first | refine g_call h lv1 ?_ | refine g_callT h lv1 ?_)
      (conv => arg 1; whnf)
      refine st1 ?_
      obtain ⟨_, h, hF⟩ := e_bind hF
      (first | refine g_call h lv1 ?_ | refine g_callT h lv1 ?_)
      (conv => arg 1; whnf)
      refine st1 ?_
      obtain ⟨_, h, hF⟩ := e_bind hF
      (first | refine g_call h lv1 ?_ | refine g_callT h lv1 ?_)
      (conv => arg 1; whnf)
      refine st1 ?_
      obtain ⟨_, h, hF⟩ := e_bind hF
      (first | refine g_call h lv1 ?_ | refine g_callT h lv1 ?_)
      (conv => arg 1; whnf)
      refine st1 ?_
      rcases e_bif hF with ⟨hb3, hF⟩ | ⟨hb3, hF⟩ <;> (first | rw [hb3] | (conv => arg 7; rw [hb3]))
      · refine st1 ?_
        have hq : some _ = some _ := hF
        cases hq
        exact en1
      · refine st1 ?_
        obtain ⟨_, h, hF⟩ := e_bind hF
        (first | refine g_call h lv1 ?_ | refine g_callT h lv1 ?_)
        (conv => arg 1; whnf)
        refine st1 ?_
        rcases e_bif hF with ⟨hb4, hF⟩ | ⟨hb4, hF⟩ <;> (first | rw [hb4] | (conv => arg 7; rw [hb4]))
        · refine st1 ?_
          have hq : some _ = some _ := hF
          cases hq
          exact en1
        · refine st1 ?_
          obtain ⟨_, h, hF⟩ := e_bind hF
          (first | refine g_call h lv1 ?_ | refine g_callT h lv1 ?_)
          (conv => arg 1; whnf)
          refine st1 ?_
          rcases e_bif hF with ⟨hb5, hF⟩ | ⟨hb5, hF⟩ <;> (first | rw [hb5] | (conv => arg 7; rw [hb5]))
          · refine st1 ?_
            rcases e_bif hF with ⟨hb6, hF⟩ | ⟨hb6, hF⟩ <;> (first | rw [hb6] | (conv => arg 7; rw [hb6]))
            · refine st1 ?_
              rcases e_bif hF with ⟨hb7, hF⟩ | ⟨hb7, hF⟩ <;> (first | rw [hb7] | (conv => arg 7; rw [hb7]))
              · refine st1 ?_
                rcases e_bif hF with ⟨hb8, hF⟩ | ⟨hb8, hF⟩ <;> (first | rw [hb8] | (conv => arg 7; rw [hb8]))
                · refine st1 ?_
                  rcases e_bif hF with ⟨hb9, hF⟩ | ⟨hb9, hF⟩ <;> (first | rw [hb9] | (conv => arg 7; rw [hb9]))
                  · refine st1 ?_
                    rw [fl_thalweglaw02_HullFloats_39, eg_thalweglaw02_HullFloats_39, ag_thalweglaw02_HullFloats_39]
                    (conv => arg 1; whnf)
                    refine st1 ?_
                    rcases e_bif hF with ⟨hb10, hF⟩ | ⟨hb10, hF⟩ <;> (first | rw [hb10] | (conv => arg 7; rw [hb10]))
                    · refine st1 ?_
                      obtain ⟨_, h, hF⟩ := e_bind hF
                      (first | refine g_call h lv1 ?_ | refine g_callT h lv1 ?_)
                      (conv => arg 1; whnf)
                      refine st1 ?_
                      have hq : some _ = some _ := hF
                      cases hq
                      exact en1
                    · refine st1 ?_
                      have hq : some _ = some _ := hF
                      cases hq
                      exact en1
                  · refine st1 ?_
                    have hq : some _ = some _ := hF
                    cases hq
                    exact en1
                · refine st1 ?_
                  have hq : some _ = some _ := hF
                  cases hq
                  exact en1
              · refine st1 ?_
                have hq : some _ = some _ := hF
                cases hq
                exact en1
            · refine st1 ?_
              have hq : some _ = some _ := hF
              cases hq
              exact en1
          · refine st1 ?_
            rcases e_bif hF with ⟨hb11, hF⟩ | ⟨hb11, hF⟩ <;> (first | rw [hb11] | (conv => arg 7; rw [hb11]))
            · refine st1 ?_
              rcases e_bif hF with ⟨hb12, hF⟩ | ⟨hb12, hF⟩ <;> (first | rw [hb12] | (conv => arg 7; rw [hb12]))
              · refine st1 ?_
                have hq : some _ = some _ := hF
                cases hq
                exact en1
              · refine st1 ?_
                rcases e_bif hF with ⟨hb13, hF⟩ | ⟨hb13, hF⟩ <;> (first | rw [hb13] | (conv => arg 7; rw [hb13]))
                · refine st1 ?_
                  have hq : some _ = some _ := hF
                  cases hq
                  exact en1
                · refine st1 ?_
                  obtain ⟨_, h, hF⟩ := e_bind hF
                  (first | refine g_call h lv1 ?_ | refine g_callT h lv1 ?_)
                  (conv => arg 1; whnf)
                  refine st1 ?_
                  rcases e_bif hF with ⟨hb14, hF⟩ | ⟨hb14, hF⟩ <;> (first | rw [hb14] | (conv => arg 7; rw [hb14]))
                  · refine st1 ?_
                    obtain ⟨_, h, hF⟩ := e_bind hF
                    (first | refine g_call h lv1 ?_ | refine g_callT h lv1 ?_)
                    (conv => arg 1; whnf)
                    refine st1 ?_
                    rcases e_bif hF with ⟨hb15, hF⟩ | ⟨hb15, hF⟩ <;> (first | rw [hb15] | (conv => arg 7; rw [hb15]))
                    · refine st1 ?_
                      rcases e_bif hF with ⟨hb16, hF⟩ | ⟨hb16, hF⟩ <;> (first | rw [hb16] | (conv => arg 7; rw [hb16]))
                      · refine st1 ?_
                        rcases e_bif hF with ⟨hb17, hF⟩ | ⟨hb17, hF⟩ <;> (first | rw [hb17] | (conv => arg 7; rw [hb17]))
                        · refine st1 ?_
                          rw [fl_thalweglaw02_HullFloats_39, eg_thalweglaw02_HullFloats_39, ag_thalweglaw02_HullFloats_39]
                          (conv => arg 1; whnf)
                          refine st1 ?_
                          rcases e_bif hF with ⟨hb18, hF⟩ | ⟨hb18, hF⟩ <;> (first | rw [hb18] | (conv => arg 7; rw [hb18]))
                          · refine st1 ?_
                            obtain ⟨_, h, hF⟩ := e_bind hF
                            (first | refine g_call h lv1 ?_ | refine g_callT h lv1 ?_)
                            (conv => arg 1; whnf)
                            refine st1 ?_
                            have hq : some _ = some _ := hF
                            cases hq
                            exact en1
                          · refine st1 ?_
                            have hq : some _ = some _ := hF
                            cases hq
                            exact en1
                        · refine st1 ?_
                          have hq : some _ = some _ := hF
                          cases hq
                          exact en1
                      · refine st1 ?_
                        have hq : some _ = some _ := hF
                        cases hq
                        exact en1
                    · refine st1 ?_
                      rcases e_bif hF with ⟨hb19, hF⟩ | ⟨hb19, hF⟩ <;> (first | rw [hb19] | (conv => arg 7; rw [hb19]))
                      · refine st1 ?_
                        rcases e_bif hF with ⟨hb20, hF⟩ | ⟨hb20, hF⟩ <;> (first | rw [hb20] | (conv => arg 7; rw [hb20]))
                        · refine st1 ?_
                          rw [fl_thalweglaw02_HullFloats_39, eg_thalweglaw02_HullFloats_39, ag_thalweglaw02_HullFloats_39]
                          (conv => arg 1; whnf)
                          refine st1 ?_
                          rcases e_bif hF with ⟨hb21, hF⟩ | ⟨hb21, hF⟩ <;> (first | rw [hb21] | (conv => arg 7; rw [hb21]))
                          · refine st1 ?_
                            obtain ⟨_, h, hF⟩ := e_bind hF
                            (first | refine g_call h lv1 ?_ | refine g_callT h lv1 ?_)
                            (conv => arg 1; whnf)
                            refine st1 ?_
                            have hq : some _ = some _ := hF
                            cases hq
                            exact en1
                          · refine st1 ?_
                            have hq : some _ = some _ := hF
                            cases hq
                            exact en1
                        · refine st1 ?_
                          have hq : some _ = some _ := hF
                          cases hq
                          exact en1
                      · refine st1 ?_
                        have hq : some _ = some _ := hF
                        cases hq
                        exact en1
                  · refine st1 ?_
                    rcases e_bif hF with ⟨hb22, hF⟩ | ⟨hb22, hF⟩ <;> (first | rw [hb22] | (conv => arg 7; rw [hb22]))
                    · refine st1 ?_
                      rcases e_bif hF with ⟨hb23, hF⟩ | ⟨hb23, hF⟩ <;> (first | rw [hb23] | (conv => arg 7; rw [hb23]))
                      · refine st1 ?_
                        rw [fl_thalweglaw02_HullFloats_39, eg_thalweglaw02_HullFloats_39, ag_thalweglaw02_HullFloats_39]
                        (conv => arg 1; whnf)
                        refine st1 ?_
                        rcases e_bif hF with ⟨hb24, hF⟩ | ⟨hb24, hF⟩ <;> (first | rw [hb24] | (conv => arg 7; rw [hb24]))
                        · refine st1 ?_
                          obtain ⟨_, h, hF⟩ := e_bind hF
                          (first | refine g_call h lv1 ?_ | refine g_callT h lv1 ?_)
                          (conv => arg 1; whnf)
                          refine st1 ?_
                          have hq : some _ = some _ := hF
                          cases hq
                          exact en1
                        · refine st1 ?_
                          have hq : some _ = some _ := hF
                          cases hq
                          exact en1
                      · refine st1 ?_
                        have hq : some _ = some _ := hF
                        cases hq
                        exact en1
                    · refine st1 ?_
                      have hq : some _ = some _ := hF
                      cases hq
                      exact en1
            · refine st1 ?_
              obtain ⟨_, h, hF⟩ := e_bind hF
              (first | refine g_call h lv1 ?_ | refine g_callT h lv1 ?_)
              (conv => arg 1; whnf)
              refine st1 ?_
              rcases e_bif hF with ⟨hb25, hF⟩ | ⟨hb25, hF⟩ <;> (first | rw [hb25] | (conv => arg 7; rw [hb25]))
              · refine st1 ?_
                rcases e_bif hF with ⟨hb26, hF⟩ | ⟨hb26, hF⟩ <;> (first | rw [hb26] | (conv => arg 7; rw [hb26]))
                · refine st1 ?_
                  have hq : some _ = some _ := hF
                  cases hq
                  exact en1
                · refine st1 ?_
                  rcases e_bif hF with ⟨hb27, hF⟩ | ⟨hb27, hF⟩ <;> (first | rw [hb27] | (conv => arg 7; rw [hb27]))
                  · refine st1 ?_
                    have hq : some _ = some _ := hF
                    cases hq
                    exact en1
                  · refine st1 ?_
                    obtain ⟨_, h, hF⟩ := e_bind hF
                    (first | refine g_call h lv1 ?_ | refine g_callT h lv1 ?_)
                    (conv => arg 1; whnf)
                    refine st1 ?_
                    rcases e_bif hF with ⟨hb28, hF⟩ | ⟨hb28, hF⟩ <;> (first | rw [hb28] | (conv => arg 7; rw [hb28]))
                    · refine st1 ?_
                      obtain ⟨_, h, hF⟩ := e_bind hF
                      (first | refine g_call h lv1 ?_ | refine g_callT h lv1 ?_)
                      (conv => arg 1; whnf)
                      refine st1 ?_
                      rcases e_bif hF with ⟨hb29, hF⟩ | ⟨hb29, hF⟩ <;> (first | rw [hb29] | (conv => arg 7; rw [hb29]))
                      · refine st1 ?_
                        rcases e_bif hF with ⟨hb30, hF⟩ | ⟨hb30, hF⟩ <;> (first | rw [hb30] | (conv => arg 7; rw [hb30]))
                        · refine st1 ?_
                          rcases e_bif hF with ⟨hb31, hF⟩ | ⟨hb31, hF⟩ <;> (first | rw [hb31] | (conv => arg 7; rw [hb31]))
                          · refine st1 ?_
                            rw [fl_thalweglaw02_HullFloats_39, eg_thalweglaw02_HullFloats_39, ag_thalweglaw02_HullFloats_39]
                            (conv => arg 1; whnf)
                            refine st1 ?_
                            rcases e_bif hF with ⟨hb32, hF⟩ | ⟨hb32, hF⟩ <;> (first | rw [hb32] | (conv => arg 7; rw [hb32]))
                            · refine st1 ?_
                              obtain ⟨_, h, hF⟩ := e_bind hF
                              (first | refine g_call h lv1 ?_ | refine g_callT h lv1 ?_)
                              (conv => arg 1; whnf)
                              refine st1 ?_
                              have hq : some _ = some _ := hF
                              cases hq
                              exact en1
                            · refine st1 ?_
                              have hq : some _ = some _ := hF
                              cases hq
                              exact en1
                          · refine st1 ?_
                            have hq : some _ = some _ := hF
                            cases hq
                            exact en1
                        · refine st1 ?_
                          have hq : some _ = some _ := hF
                          cases hq
                          exact en1
                      · refine st1 ?_
                        rcases e_bif hF with ⟨hb33, hF⟩ | ⟨hb33, hF⟩ <;> (first | rw [hb33] | (conv => arg 7; rw [hb33]))
                        · refine st1 ?_
                          rcases e_bif hF with ⟨hb34, hF⟩ | ⟨hb34, hF⟩ <;> (first | rw [hb34] | (conv => arg 7; rw [hb34]))
                          · refine st1 ?_
                            rw [fl_thalweglaw02_HullFloats_39, eg_thalweglaw02_HullFloats_39, ag_thalweglaw02_HullFloats_39]
                            (conv => arg 1; whnf)
                            refine st1 ?_
                            rcases e_bif hF with ⟨hb35, hF⟩ | ⟨hb35, hF⟩ <;> (first | rw [hb35] | (conv => arg 7; rw [hb35]))
                            · refine st1 ?_
                              obtain ⟨_, h, hF⟩ := e_bind hF
                              (first | refine g_call h lv1 ?_ | refine g_callT h lv1 ?_)
                              (conv => arg 1; whnf)
                              refine st1 ?_
                              have hq : some _ = some _ := hF
                              cases hq
                              exact en1
                            · refine st1 ?_
                              have hq : some _ = some _ := hF
                              cases hq
                              exact en1
                          · refine st1 ?_
                            have hq : some _ = some _ := hF
                            cases hq
                            exact en1
                        · refine st1 ?_
                          have hq : some _ = some _ := hF
                          cases hq
                          exact en1
                    · refine st1 ?_
                      rcases e_bif hF with ⟨hb36, hF⟩ | ⟨hb36, hF⟩ <;> (first | rw [hb36] | (conv => arg 7; rw [hb36]))
                      · refine st1 ?_
                        rcases e_bif hF with ⟨hb37, hF⟩ | ⟨hb37, hF⟩ <;> (first | rw [hb37] | (conv => arg 7; rw [hb37]))
                        · refine st1 ?_
                          rw [fl_thalweglaw02_HullFloats_39, eg_thalweglaw02_HullFloats_39, ag_thalweglaw02_HullFloats_39]
                          (conv => arg 1; whnf)
                          refine st1 ?_
                          rcases e_bif hF with ⟨hb38, hF⟩ | ⟨hb38, hF⟩ <;> (first | rw [hb38] | (conv => arg 7; rw [hb38]))
                          · refine st1 ?_
                            obtain ⟨_, h, hF⟩ := e_bind hF
                            (first | refine g_call h lv1 ?_ | refine g_callT h lv1 ?_)
                            (conv => arg 1; whnf)
                            refine st1 ?_
                            have hq : some _ = some _ := hF
                            cases hq
                            exact en1
                          · refine st1 ?_
                            have hq : some _ = some _ := hF
                            cases hq
                            exact en1
                        · refine st1 ?_
                          have hq : some _ = some _ := hF
                          cases hq
                          exact en1
                      · refine st1 ?_
                        have hq : some _ = some _ := hF
                        cases hq
                        exact en1
              · refine st1 ?_
                rcases e_bif hF with ⟨hb39, hF⟩ | ⟨hb39, hF⟩ <;> (first | rw [hb39] | (conv => arg 7; rw [hb39]))
                · refine st1 ?_
                  have hq : some _ = some _ := hF
                  cases hq
                  exact en1
                · refine st1 ?_
                  obtain ⟨_, h, hF⟩ := e_bind hF
                  (first | refine g_call h lv1 ?_ | refine g_callT h lv1 ?_)
                  (conv => arg 1; whnf)
                  refine st1 ?_
                  rcases e_bif hF with ⟨hb40, hF⟩ | ⟨hb40, hF⟩ <;> (first | rw [hb40] | (conv => arg 7; rw [hb40]))
                  · refine st1 ?_
                    have hq : some _ = some _ := hF
                    cases hq
                    exact en1
                  · refine st1 ?_
                    obtain ⟨_, h, hF⟩ := e_bind hF
                    (first | refine g_call h lv1 ?_ | refine g_callT h lv1 ?_)
                    (conv => arg 1; whnf)
                    refine st1 ?_
                    rcases e_bif hF with ⟨hb41, hF⟩ | ⟨hb41, hF⟩ <;> (first | rw [hb41] | (conv => arg 7; rw [hb41]))
                    · refine st1 ?_
                      obtain ⟨_, h, hF⟩ := e_bind hF
                      (first | refine g_call h lv1 ?_ | refine g_callT h lv1 ?_)
                      (conv => arg 1; whnf)
                      refine st1 ?_
                      rcases e_bif hF with ⟨hb42, hF⟩ | ⟨hb42, hF⟩ <;> (first | rw [hb42] | (conv => arg 7; rw [hb42]))
                      · refine st1 ?_
                        rcases e_bif hF with ⟨hb43, hF⟩ | ⟨hb43, hF⟩ <;> (first | rw [hb43] | (conv => arg 7; rw [hb43]))
                        · refine st1 ?_
                          rcases e_bif hF with ⟨hb44, hF⟩ | ⟨hb44, hF⟩ <;> (first | rw [hb44] | (conv => arg 7; rw [hb44]))
                          · refine st1 ?_
                            rw [fl_thalweglaw02_HullFloats_39, eg_thalweglaw02_HullFloats_39, ag_thalweglaw02_HullFloats_39]
                            (conv => arg 1; whnf)
                            refine st1 ?_
                            rcases e_bif hF with ⟨hb45, hF⟩ | ⟨hb45, hF⟩ <;> (first | rw [hb45] | (conv => arg 7; rw [hb45]))
                            · refine st1 ?_
                              obtain ⟨_, h, hF⟩ := e_bind hF
                              (first | refine g_call h lv1 ?_ | refine g_callT h lv1 ?_)
                              (conv => arg 1; whnf)
                              refine st1 ?_
                              have hq : some _ = some _ := hF
                              cases hq
                              exact en1
                            · refine st1 ?_
                              have hq : some _ = some _ := hF
                              cases hq
                              exact en1
                          · refine st1 ?_
                            have hq : some _ = some _ := hF
                            cases hq
                            exact en1
                        · refine st1 ?_
                          have hq : some _ = some _ := hF
                          cases hq
                          exact en1
                      · refine st1 ?_
                        rcases e_bif hF with ⟨hb46, hF⟩ | ⟨hb46, hF⟩ <;> (first | rw [hb46] | (conv => arg 7; rw [hb46]))
                        · refine st1 ?_
                          rcases e_bif hF with ⟨hb47, hF⟩ | ⟨hb47, hF⟩ <;> (first | rw [hb47] | (conv => arg 7; rw [hb47]))
                          · refine st1 ?_
                            rw [fl_thalweglaw02_HullFloats_39, eg_thalweglaw02_HullFloats_39, ag_thalweglaw02_HullFloats_39]
                            (conv => arg 1; whnf)
                            refine st1 ?_
                            rcases e_bif hF with ⟨hb48, hF⟩ | ⟨hb48, hF⟩ <;> (first | rw [hb48] | (conv => arg 7; rw [hb48]))
                            · refine st1 ?_
                              obtain ⟨_, h, hF⟩ := e_bind hF
                              (first | refine g_call h lv1 ?_ | refine g_callT h lv1 ?_)
                              (conv => arg 1; whnf)
                              refine st1 ?_
                              have hq : some _ = some _ := hF
                              cases hq
                              exact en1
                            · refine st1 ?_
                              have hq : some _ = some _ := hF
                              cases hq
                              exact en1
                          · refine st1 ?_
                            have hq : some _ = some _ := hF
                            cases hq
                            exact en1
                        · refine st1 ?_
                          have hq : some _ = some _ := hF
                          cases hq
                          exact en1
                    · refine st1 ?_
                      rcases e_bif hF with ⟨hb49, hF⟩ | ⟨hb49, hF⟩ <;> (first | rw [hb49] | (conv => arg 7; rw [hb49]))
                      · refine st1 ?_
                        rcases e_bif hF with ⟨hb50, hF⟩ | ⟨hb50, hF⟩ <;> (first | rw [hb50] | (conv => arg 7; rw [hb50]))
                        · refine st1 ?_
                          rw [fl_thalweglaw02_HullFloats_39, eg_thalweglaw02_HullFloats_39, ag_thalweglaw02_HullFloats_39]
                          (conv => arg 1; whnf)
                          refine st1 ?_
                          rcases e_bif hF with ⟨hb51, hF⟩ | ⟨hb51, hF⟩ <;> (first | rw [hb51] | (conv => arg 7; rw [hb51]))
                          · refine st1 ?_
                            obtain ⟨_, h, hF⟩ := e_bind hF
                            (first | refine g_call h lv1 ?_ | refine g_callT h lv1 ?_)
                            (conv => arg 1; whnf)
                            refine st1 ?_
                            have hq : some _ = some _ := hF
                            cases hq
                            exact en1
                          · refine st1 ?_
                            have hq : some _ = some _ := hF
                            cases hq
                            exact en1
                        · refine st1 ?_
                          have hq : some _ = some _ := hF
                          cases hq
                          exact en1
                      · refine st1 ?_
                        have hq : some _ = some _ := hF
                        cases hq
                        exact en1

end Go.Ev
