/- A part of the proof of HullWears. -/
import Derived.Test.YteajfcmpmcopoabProg
import Derived.Test.YteajfcmpmcopoabW2
/- The functions do what is said. -/
set_option linter.unusedVariables false
set_option linter.unusedSimpArgs false
namespace Go.Ev
open Go.Proofs
set_option maxHeartbeats 8000000
set_option maxRecDepth 100000
theorem mix : Try.prog.follows .mixedOrders = true := by kernel_rfl
@[reducible] noncomputable def c_numbers_Every_HullPlate (C : FuncId → Option Con) : Con := conK F_numbers_Every_HullPlate (fun x => match x with | (a0, a1, g, caps) => [(V.sl (recs eTHullPlate (a0)) (a0).length), (V.fn g caps)]) (fun x => match x with | (a0, a1, g, caps) => Callable (ext C []) g caps (fun x => match x with | (q0) => [(V.agg (eTHullPlate q0))]) (fun r => (V.v (.bool (r)))) a1) (fun r => (V.v (.bool (r))))
theorem h_numbers_Every_HullPlate {C : FuncId → Option Con} (hC : CtxOK Try.prog C) : Has Try.prog 32 (c_numbers_Every_HullPlate C) := by
  refine hasK (ext_nil hC) mix Try.func32 rfl (by kernel_rfl) ?_
  rintro ⟨a0, a1, g, caps⟩ r hcl hF
  obtain ⟨hcaps, c, hc, hce, hcall⟩ := id hcl
  refine ⟨of_decide_eq_true rfl, ?_⟩
  refine st1 ?_
  refine st_loopF (e_assoc hF) () [] ⟨sT, sS, by rfl, by rfl⟩ ?_
  · rintro n _ _ x hx1 hF
    (conv => arg 7; whnf); (conv => arg 8; whnf); (conv => arg 9; whnf)
    refine st1 ?_
    rcases e_bif hF with ⟨hb5, hF⟩ | ⟨hb5, hF⟩ <;> (first | rw [hb5] | (conv => arg 7; rw [hb5]))
    · refine st1 ?_
      obtain ⟨_, h, hF⟩ := e_bind hF
      (first | refine o_ia (enc := eTHullPlate) (s := 4) h (fun _ => rfl) (by decide) ?_ | refine o_iaT (enc := eTHullPlate) (s := 4) h (fun _ => rfl) (by decide) ?_)
      intro _
      refine st1 ?_
      obtain ⟨_, h, hF⟩ := e_bind hF
      rw [hc]
      (conv => arg 1; whnf)
      rw [hce]
      (conv => arg 1; whnf)
      (first | refine go_map hcaps rfl ?_ | refine goT_map hcaps rfl ?_)
      (conv => arg 1; whnf)
      obtain ⟨z, hz1, hz2, hz3⟩ := hcall _ _ h
      (first | refine go_exi z ⟨levs_eq hz1.symm, hz2⟩ ?_ | refine goT_exi z ⟨levs_eq hz1.symm, hz2⟩ ?_)
      rw [hz3]
      (conv => arg 1; whnf)
      refine st1 ?_
      rcases e_bif hF with ⟨hb6, hF⟩ | ⟨hb6, hF⟩ <;> (first | rw [hb6] | (conv => arg 7; rw [hb6]))
      · refine st1 ?_
        have hF := e_some hF
        have hq : some _ = some _ := hF
        cases hq
        exact en1
      · refine st1 ?_
        exact k_loopF (e_some hF) hx1 () [] ⟨sT, sS, by rfl, by rfl⟩
    · refine st1 ?_
      have hF := e_some hF
      have hq : some _ = some _ := hF
      cases hq
      exact en1


@[reducible] noncomputable def c_numbers_Every_int (C : FuncId → Option Con) : Con := conK F_numbers_Every_int (fun x => match x with | (a0, a1, g, caps) => [(V.sl (recs (eI .i64) (a0)) (a0).length), (V.fn g caps)]) (fun x => match x with | (a0, a1, g, caps) => Callable (ext C []) g caps (fun x => match x with | (q0) => [(V.v (.int .i64 (q0)))]) (fun r => (V.v (.bool (r)))) a1) (fun r => (V.v (.bool (r))))
theorem h_numbers_Every_int {C : FuncId → Option Con} (hC : CtxOK Try.prog C) : Has Try.prog 61 (c_numbers_Every_int C) := by
  refine hasK (ext_nil hC) mix Try.func61 rfl (by kernel_rfl) ?_
  rintro ⟨a0, a1, g, caps⟩ r hcl hF
  obtain ⟨hcaps, c, hc, hce, hcall⟩ := id hcl
  refine ⟨of_decide_eq_true rfl, ?_⟩
  refine st1 ?_
  refine st_loopF (e_assoc hF) () [] ⟨sT, sS, by rfl, by rfl⟩ ?_
  · rintro n _ _ x hx1 hF
    (conv => arg 7; whnf); (conv => arg 8; whnf); (conv => arg 9; whnf)
    refine st1 ?_
    rcases e_bif hF with ⟨hb5, hF⟩ | ⟨hb5, hF⟩ <;> (first | rw [hb5] | (conv => arg 7; rw [hb5]))
    · refine st1 ?_
      obtain ⟨_, h, hF⟩ := e_bind hF
      (first | refine o_ia (enc := (eI .i64)) (s := 1) h (fun _ => rfl) (by decide) ?_ | refine o_iaT (enc := (eI .i64)) (s := 1) h (fun _ => rfl) (by decide) ?_)
      intro _
      refine st1 ?_
      obtain ⟨_, h, hF⟩ := e_bind hF
      rw [hc]
      (conv => arg 1; whnf)
      rw [hce]
      (conv => arg 1; whnf)
      (first | refine go_map hcaps rfl ?_ | refine goT_map hcaps rfl ?_)
      (conv => arg 1; whnf)
      obtain ⟨z, hz1, hz2, hz3⟩ := hcall _ _ h
      (first | refine go_exi z ⟨levs_eq hz1.symm, hz2⟩ ?_ | refine goT_exi z ⟨levs_eq hz1.symm, hz2⟩ ?_)
      rw [hz3]
      (conv => arg 1; whnf)
      refine st1 ?_
      rcases e_bif hF with ⟨hb6, hF⟩ | ⟨hb6, hF⟩ <;> (first | rw [hb6] | (conv => arg 7; rw [hb6]))
      · refine st1 ?_
        have hF := e_some hF
        have hq : some _ = some _ := hF
        cases hq
        exact en1
      · refine st1 ?_
        exact k_loopF (e_some hF) hx1 () [] ⟨sT, sS, by rfl, by rfl⟩
    · refine st1 ?_
      have hF := e_some hF
      have hq : some _ = some _ := hF
      cases hq
      exact en1


@[reducible] noncomputable def c_numbers_Within_1 : Con := conF F_numbers_Within_1 (fun x => match x with | (a0, c0, c1) => [(V.v (.int .i64 (a0))), (V.fptr [(V.v (.int .i64 (c0)))]), (V.fptr [(V.v (.int .i64 (c1)))])]) (fun r => (V.v (.bool (r))))
theorem h_numbers_Within_1 : Has Try.prog 62 c_numbers_Within_1 := by
  refine hasF ctx_nil mix Try.func62 rfl (by kernel_rfl) ?_
  rintro ⟨a0, c0, c1⟩ r hF
  refine ⟨of_decide_eq_true rfl, ?_⟩
  refine st1 ?_
  rcases e_bif hF with ⟨hb1, hF⟩ | ⟨hb1, hF⟩ <;> (first | rw [hb1] | (conv => arg 7; rw [hb1]))
  · refine st1 ?_
    have hq : some _ = some _ := hF
    cases hq
    exact en1
  · refine st1 ?_
    have hq : some _ = some _ := hF
    cases hq
    exact en1


@[reducible] noncomputable def c_numbers_Within : Con := conF F_numbers_Within (fun x => match x with | (a0, a1, a2) => [(V.v (.int .i64 (a0))), (V.v (.int .i64 (a1))), (V.sl (recs (eI .i64) (a2)) (a2).length)]) (fun r => (V.v (.bool (r))))
theorem h_numbers_Within : Has Try.prog 35 c_numbers_Within := by
  refine hasF (ctx_cons (h_numbers_Every_int (ctx_cons h_numbers_Within_1 ctx_nil)) ctx_nil) mix Try.func35 rfl (by kernel_rfl) ?_
  rintro ⟨a0, a1, a2⟩ r hF
  refine ⟨of_decide_eq_true rfl, ?_⟩
  refine st1 ?_
  obtain ⟨_, h, hF⟩ := e_bind hF
  (first | refine g_hcall h lv1 (callable_conF rfl rfl (fun _ => rfl)) ?_ | refine g_hcallT h lv1 (callable_conF rfl rfl (fun _ => rfl)) ?_)
  (conv => arg 1; whnf)
  refine st1 ?_
  have hq : some _ = some _ := hF
  cases hq
  exact en1


@[reducible] noncomputable def c_numbers_Valid : Con := conF F_numbers_Valid (fun x => match x with | (a0, a1, a2) => [(V.agg (eTBounds a0)), (V.v (.int .i64 (a1))), (V.v (.int .i64 (a2)))]) (fun r => (V.v (.bool (r))))
theorem h_numbers_Valid : Has Try.prog 34 c_numbers_Valid := by
  refine hasF (ctx_cons h_numbers_Within ctx_nil) mix Try.func34 rfl (by kernel_rfl) ?_
  rintro ⟨a0, a1, a2⟩ r hF
  refine ⟨of_decide_eq_true rfl, ?_⟩
  refine st1 ?_
  rcases e_bif hF with ⟨hb1, hF⟩ | ⟨hb1, hF⟩ <;> (first | rw [hb1] | (conv => arg 7; rw [hb1]))
  · refine st1 ?_
    obtain ⟨_, h, hF⟩ := e_bind hF
    (first | refine g_call h lv1 ?_ | refine g_callT h lv1 ?_)
    (conv => arg 1; whnf)
    refine st1 ?_
    have hq : some _ = some _ := hF
    cases hq
    exact en1
  · refine st1 ?_
    have hq : some _ = some _ := hF
    cases hq
    exact en1


@[reducible] noncomputable def c_hull_Life_1 : Con := conF F_hull_Life_1 (fun x => match x with | (a0) => [(V.agg (eTHullPlate a0))]) (fun r => (V.v (.bool (r))))
theorem h_hull_Life_1 : Has Try.prog 33 c_hull_Life_1 := by
  refine hasF (ctx_cons h_numbers_Valid ctx_nil) mix Try.func33 rfl (by kernel_rfl) ?_
  rintro a0 r hF
  refine ⟨of_decide_eq_true rfl, ?_⟩
  refine st1 ?_
  obtain ⟨_, h, hF⟩ := e_bind hF
  (first | refine g_call h lv1 ?_ | refine g_callT h lv1 ?_)
  (conv => arg 1; whnf)
  refine st1 ?_
  rcases e_bif hF with ⟨hb1, hF⟩ | ⟨hb1, hF⟩ <;> (first | rw [hb1] | (conv => arg 7; rw [hb1]))
  · refine st1 ?_
    obtain ⟨_, h, hF⟩ := e_bind hF
    (first | refine g_call h lv1 ?_ | refine g_callT h lv1 ?_)
    (conv => arg 1; whnf)
    refine st1 ?_
    have hq : some _ = some _ := hF
    cases hq
    exact en1
  · refine st1 ?_
    have hq : some _ = some _ := hF
    cases hq
    exact en1


@[reducible] noncomputable def c_hull_lasts : Con := conF F_hull_lasts (fun x => match x with | (a0, a1) => [(V.v (.int .i64 (a0))), (V.v (.int .i64 (a1)))]) (fun r => (V.v (.int .i64 (r))))
theorem h_hull_lasts : Has Try.prog 36 c_hull_lasts := by
  refine hasF ctx_nil mix Try.func36 rfl (by kernel_rfl) ?_
  rintro ⟨a0, a1⟩ r hF
  refine ⟨of_decide_eq_true rfl, ?_⟩
  refine st1 ?_
  rcases e_bif hF with ⟨hb1, hF⟩ | ⟨hb1, hF⟩ <;> (first | rw [hb1] | (conv => arg 7; rw [hb1]))
  · refine st1 ?_
    have hq : some _ = some _ := hF
    cases hq
    exact en1
  · refine st1 ?_
    rcases e_bif hF with ⟨hb2, hF⟩ | ⟨hb2, hF⟩ <;> (first | rw [hb2] | (conv => arg 7; rw [hb2]))
    · refine st1 ?_
      have hq : some _ = some _ := hF
      cases hq
      exact en1
    · refine st1 ?_
      obtain ⟨_, h, hF⟩ := e_bind hF
      (first | refine go_req (nz_ne h) ?_ | refine goT_req (nz_ne h) ?_)
      (conv => arg 1; whnf)
      refine st1 ?_
      have hq : some _ = some _ := hF
      cases hq
      exact en1


@[reducible] noncomputable def c_hull_Life : Con := conF F_hull_Life (fun x => match x with | (a0, a1) => [(V.sl (recs eTHullPlate (a0)) (a0).length), (V.v (.int .i64 (a1)))]) (fun r => V.tup [(V.agg (eTBounds r.1)), (V.v (.int .i64 (r.2.1))), (V.v (.int .i64 (r.2.2)))])
theorem h_hull_Life : Has Try.prog 10 c_hull_Life := by
  refine hasF (ctx_cons (h_numbers_Every_HullPlate (ctx_cons h_hull_Life_1 ctx_nil)) (ctx_cons h_hull_lasts (ctx_cons h_numbers_Within ctx_nil))) mix Try.func10 rfl (by kernel_rfl) ?_
  rintro ⟨a0, a1⟩ r hF
  refine ⟨of_decide_eq_true rfl, ?_⟩
  refine st1 ?_
  rcases e_bif hF with ⟨hb1, hF⟩ | ⟨hb1, hF⟩ <;> (first | rw [hb1] | (conv => arg 7; rw [hb1]))
  · refine st1 ?_
    have hq : some _ = some _ := hF
    cases hq
    exact en1
  · refine st1 ?_
    rcases e_bif hF with ⟨hb2, hF⟩ | ⟨hb2, hF⟩ <;> (first | rw [hb2] | (conv => arg 7; rw [hb2]))
    · refine st1 ?_
      have hq : some _ = some _ := hF
      cases hq
      exact en1
    · refine st1 ?_
      obtain ⟨_, h, hF⟩ := e_bind hF
      (first | refine g_hcall h lv1 (callable_conF rfl rfl (fun _ => rfl)) ?_ | refine g_hcallT h lv1 (callable_conF rfl rfl (fun _ => rfl)) ?_)
      (conv => arg 1; whnf)
      refine st1 ?_
      rcases e_bif hF with ⟨hb3, hF⟩ | ⟨hb3, hF⟩ <;> (first | rw [hb3] | (conv => arg 7; rw [hb3]))
      · refine st1 ?_
        have hq : some _ = some _ := hF
        cases hq
        exact en1
      · refine st1 ?_
        obtain ⟨_, h, hF⟩ := e_bind hF
        (first | refine g_call h lv1 ?_ | refine g_callT h lv1 ?_)
        (conv => arg 1; whnf)
        refine st1 ?_
        rcases e_bif hF with ⟨hb4, hF⟩ | ⟨hb4, hF⟩ <;> (first | rw [hb4] | (conv => arg 7; rw [hb4]))
        · refine st1 ?_
          have hq : some _ = some _ := hF
          cases hq
          exact en1
        · refine st1 ?_
          refine st_loopF (e_assoc hF) () [(0, _)] ⟨sT, sS, by rfl, by rfl⟩ ?_
          · rintro n ⟨_, _, _, _⟩ _ x hx1 hF
            (conv => arg 7; whnf); (conv => arg 8; whnf); (conv => arg 9; whnf)
            refine st1 ?_
            rcases e_bif hF with ⟨hb11, hF⟩ | ⟨hb11, hF⟩ <;> (first | rw [hb11] | (conv => arg 7; rw [hb11]))
            · refine st1 ?_
              obtain ⟨_, h, hF⟩ := e_bind hF
              (first | refine o_ia (enc := eTHullPlate) (s := 4) h (fun _ => rfl) (by decide) ?_ | refine o_iaT (enc := eTHullPlate) (s := 4) h (fun _ => rfl) (by decide) ?_)
              intro _
              refine st1 ?_
              obtain ⟨_, h, hF⟩ := e_bind hF
              (first | refine g_call h lv1 ?_ | refine g_callT h lv1 ?_)
              (conv => arg 1; whnf)
              refine st1 ?_
              rcases e_bif hF with ⟨hb12, hF⟩ | ⟨hb12, hF⟩ <;> (first | rw [hb12] | (conv => arg 7; rw [hb12]))
              · refine st1 ?_
                obtain ⟨_, h, hF⟩ := e_bind hF
                (first | refine g_call h lv1 ?_ | refine g_callT h lv1 ?_)
                (conv => arg 1; whnf)
                refine st1 ?_
                exact k_loopF (e_some hF) hx1 () [(0, _)] ⟨sT, sS, by rfl, by rfl⟩
              · refine st1 ?_
                obtain ⟨_, h, hF⟩ := e_bind hF
                (first | refine g_call h lv1 ?_ | refine g_callT h lv1 ?_)
                (conv => arg 1; whnf)
                refine st1 ?_
                exact k_loopF (e_some hF) hx1 () [(0, _)] ⟨sT, sS, by rfl, by rfl⟩
            · refine st1 ?_
              have hF := e_some hF
              have hq : some _ = some _ := hF
              cases hq
              exact en1


@[reducible] noncomputable def c_thalwegref02_Years : Con := conF F_thalwegref02_Years (fun x => match x with | (a0, a1, a2) => [(V.v (.int .i64 (a0))), (V.v (.int .i64 (a1))), (V.v (.int .i64 (a2)))]) (fun r => (V.v (.int .i64 (r))))
theorem h_thalwegref02_Years : Has Try.prog 37 c_thalwegref02_Years := by
  refine hasF ctx_nil mix Try.func37 rfl (by kernel_rfl) ?_
  rintro ⟨a0, a1, a2⟩ r hF
  refine ⟨of_decide_eq_true rfl, ?_⟩
  refine st1 ?_
  rcases e_bif hF with ⟨hb1, hF⟩ | ⟨hb1, hF⟩ <;> (first | rw [hb1] | (conv => arg 7; rw [hb1]))
  · refine st1 ?_
    have hq : some _ = some _ := hF
    cases hq
    exact en1
  · refine st1 ?_
    refine st_loopF (e_assoc hF) () [] ⟨sT, sS, by rfl, by rfl⟩ ?_
    · rintro n _ _ x hx1 hF
      (conv => arg 7; whnf); (conv => arg 8; whnf); (conv => arg 9; whnf)
      refine st1 ?_
      rcases e_bif hF with ⟨hb5, hF⟩ | ⟨hb5, hF⟩ <;> (first | rw [hb5] | (conv => arg 7; rw [hb5]))
      · refine st1 ?_
        rcases e_bif hF with ⟨hb6, hF⟩ | ⟨hb6, hF⟩ <;> (first | rw [hb6] | (conv => arg 7; rw [hb6]))
        · refine st1 ?_
          exact k_loopF (e_some hF) hx1 () [] ⟨sT, sS, by rfl, by rfl⟩
        · refine st1 ?_
          have hF := e_some hF
          have hq : some _ = some _ := hF
          cases hq
          exact en1
      · refine st1 ?_
        have hF := e_some hF
        have hq : some _ = some _ := hF
        cases hq
        exact en1


@[reducible] noncomputable def c_thalwegref02_Life : Con := conF F_thalwegref02_Life (fun x => match x with | (a0, a1) => [(V.sl (recs eTHullPlate (a0)) (a0).length), (V.v (.int .i64 (a1)))]) (fun r => V.tup [(V.agg (eTBounds r.1)), (V.v (.int .i64 (r.2)))])
theorem h_thalwegref02_Life : Has Try.prog 11 c_thalwegref02_Life := by
  refine hasF (ctx_cons h_thalwegref02_Years ctx_nil) mix Try.func11 rfl (by kernel_rfl) ?_
  rintro ⟨a0, a1⟩ r hF
  refine ⟨of_decide_eq_true rfl, ?_⟩
  refine st1 ?_
  refine st_loopF (e_assoc hF) () [(0, _), (3, _)] ⟨sT, sS, by rfl, by rfl⟩ ?_
  · rintro n ⟨_, _, _, _⟩ _ x hx1 hF
    (conv => arg 7; whnf); (conv => arg 8; whnf); (conv => arg 9; whnf)
    refine st1 ?_
    rcases e_bif hF with ⟨hb7, hF⟩ | ⟨hb7, hF⟩ <;> (first | rw [hb7] | (conv => arg 7; rw [hb7]))
    · refine st1 ?_
      obtain ⟨_, h, hF⟩ := e_bind hF
      (first | refine o_ia (enc := eTHullPlate) (s := 4) h (fun _ => rfl) (by decide) ?_ | refine o_iaT (enc := eTHullPlate) (s := 4) h (fun _ => rfl) (by decide) ?_)
      intro _
      refine st1 ?_
      obtain ⟨_, h, hF⟩ := e_bind hF
      (first | refine o_ia (enc := eTHullPlate) (s := 4) h (fun _ => rfl) (by decide) ?_ | refine o_iaT (enc := eTHullPlate) (s := 4) h (fun _ => rfl) (by decide) ?_)
      intro _
      refine st1 ?_
      obtain ⟨_, h, hF⟩ := e_bind hF
      (first | refine g_call h lv1 ?_ | refine g_callT h lv1 ?_)
      (conv => arg 1; whnf)
      refine st1 ?_
      rcases e_bif hF with ⟨hb8, hF⟩ | ⟨hb8, hF⟩ <;> (first | rw [hb8] | (conv => arg 7; rw [hb8]))
      · refine st1 ?_
        obtain ⟨_, h, hF⟩ := e_bind hF
        (first | refine o_ia (enc := eTHullPlate) (s := 4) h (fun _ => rfl) (by decide) ?_ | refine o_iaT (enc := eTHullPlate) (s := 4) h (fun _ => rfl) (by decide) ?_)
        intro _
        refine st1 ?_
        obtain ⟨_, h, hF⟩ := e_bind hF
        (first | refine o_ia (enc := eTHullPlate) (s := 4) h (fun _ => rfl) (by decide) ?_ | refine o_iaT (enc := eTHullPlate) (s := 4) h (fun _ => rfl) (by decide) ?_)
        intro _
        refine st1 ?_
        obtain ⟨_, h, hF⟩ := e_bind hF
        (first | refine g_call h lv1 ?_ | refine g_callT h lv1 ?_)
        (conv => arg 1; whnf)
        refine st1 ?_
        exact k_loopF (e_some hF) hx1 () [(0, _), (3, _)] ⟨sT, sS, by rfl, by rfl⟩
      · refine st1 ?_
        obtain ⟨_, h, hF⟩ := e_bind hF
        (first | refine o_ia (enc := eTHullPlate) (s := 4) h (fun _ => rfl) (by decide) ?_ | refine o_iaT (enc := eTHullPlate) (s := 4) h (fun _ => rfl) (by decide) ?_)
        intro _
        refine st1 ?_
        obtain ⟨_, h, hF⟩ := e_bind hF
        (first | refine o_ia (enc := eTHullPlate) (s := 4) h (fun _ => rfl) (by decide) ?_ | refine o_iaT (enc := eTHullPlate) (s := 4) h (fun _ => rfl) (by decide) ?_)
        intro _
        refine st1 ?_
        obtain ⟨_, h, hF⟩ := e_bind hF
        (first | refine g_call h lv1 ?_ | refine g_callT h lv1 ?_)
        (conv => arg 1; whnf)
        refine st1 ?_
        exact k_loopF (e_some hF) hx1 () [(0, _), (3, _)] ⟨sT, sS, by rfl, by rfl⟩
    · refine st1 ?_
      have hF := e_some hF
      have hq : some _ = some _ := hF
      cases hq
      exact en1


@[reducible] noncomputable def c_thalweglaw02_HullLives : Con := conF F_thalweglaw02_HullLives (fun x => match x with | (a0, a1) => [(V.sl (recs eTHullPlate (a0)) (a0).length), (V.v (.int .i64 (a1)))]) (fun r => (V.v (.bool (r))))
theorem fl_thalweglaw02_HullLives_25 : flatOf Try.prog 9 25 = some [true, true] := by kernel_rfl
theorem eg_thalweglaw02_HullLives_25 : Try.prog.eqGuardType Try.prog.depth 25 = false := by kernel_rfl
theorem ag_thalweglaw02_HullLives_25 : aggOf Try.prog 25 = some true := by kernel_rfl
theorem fl_thalweglaw02_HullLives_30 : flatOf Try.prog 9 30 = some [true, true, true, true] := by kernel_rfl
theorem eg_thalweglaw02_HullLives_30 : Try.prog.eqGuardType Try.prog.depth 30 = false := by kernel_rfl
theorem ag_thalweglaw02_HullLives_30 : aggOf Try.prog 30 = some true := by kernel_rfl
theorem h_thalweglaw02_HullLives : Has Try.prog 3 c_thalweglaw02_HullLives := by
  refine hasF (ctx_cons h_thalwegref02_Life (ctx_cons h_hull_Life (ctx_cons h_thalweglaw02_known ctx_nil))) mix Try.func3 rfl (by kernel_rfl) ?_
  rintro ⟨a0, a1⟩ r hF
  refine ⟨of_decide_eq_true rfl, ?_⟩
  refine st1 ?_
  rcases e_bif hF with ⟨hb1, hF⟩ | ⟨hb1, hF⟩ <;> (first | rw [hb1] | (conv => arg 7; rw [hb1]))
  · refine st1 ?_
    obtain ⟨_, h, hF⟩ := e_bind hF
    (first | refine g_call h lv1 ?_ | refine g_callT h lv1 ?_)
    (conv => arg 1; whnf)
    refine st1 ?_
    have hq : some _ = some _ := hF
    cases hq
    exact en1
  · refine st1 ?_
    obtain ⟨_, h, hF⟩ := e_bind hF
    (first | refine o_app (enc := eTHullPlate) (s := 4) h (fun _ => rfl) ?_ | refine o_appT (enc := eTHullPlate) (s := 4) h (fun _ => rfl) ?_)
    refine st1 ?_
    obtain ⟨_, h, hF⟩ := e_bind hF
    (first | refine g_call h lv1 ?_ | refine g_callT h lv1 ?_)
    (conv => arg 1; whnf)
    refine st1 ?_
    rcases e_bif hF with ⟨hb2, hF⟩ | ⟨hb2, hF⟩ <;> (first | rw [hb2] | (conv => arg 7; rw [hb2]))
    · refine st1 ?_
      rcases e_bif hF with ⟨hb3, hF⟩ | ⟨hb3, hF⟩ <;> (first | rw [hb3] | (conv => arg 7; rw [hb3]))
      · refine st1 ?_
        refine st_loopF (e_assoc hF) _ [(6, _), (15, _)] ⟨sT, sS, by rfl, by rfl⟩ ?_
        · rintro n _ _ x hx1 hF
          (conv => arg 7; whnf); (conv => arg 8; whnf); (conv => arg 9; whnf)
          refine st1 ?_
          rcases e_bif hF with ⟨hb8, hF⟩ | ⟨hb8, hF⟩ <;> (first | rw [hb8] | (conv => arg 7; rw [hb8]))
          · refine st1 ?_
            obtain ⟨_, hi10, hF⟩ := e_bind hF
            (first | refine go_req (oidx_ok hi10 (by decide)) ?_ | refine goT_req (oidx_ok hi10 (by decide)) ?_)
            (conv => arg 1; whnf)
            refine st1 ?_
            (first | refine o_ldA (enc := eTHullPlate) (s := 4) hi10 (fun _ => rfl) (by decide) ?_ | refine o_ldB (enc := eTHullPlate) (s := 4) hi10 (fun _ => rfl) (by decide) ?_ | refine o_ldC (enc := eTHullPlate) (s := 4) hi10 (fun _ => rfl) (by decide) ?_ | refine o_ldD (enc := eTHullPlate) (s := 4) hi10 (fun _ => rfl) (by decide) ?_ | refine o_ldAT (enc := eTHullPlate) (s := 4) hi10 (fun _ => rfl) (by decide) ?_ | refine o_ldBT (enc := eTHullPlate) (s := 4) hi10 (fun _ => rfl) (by decide) ?_ | refine o_ldCT (enc := eTHullPlate) (s := 4) hi10 (fun _ => rfl) (by decide) ?_ | refine o_ldDT (enc := eTHullPlate) (s := 4) hi10 (fun _ => rfl) (by decide) ?_)
            (conv => arg 1; whnf)
            refine st1 ?_
            obtain ⟨_, h, hF⟩ := e_bind hF
            (first | refine o_ia (enc := eTHullPlate) (s := 4) h (fun _ => rfl) (by decide) ?_ | refine o_iaT (enc := eTHullPlate) (s := 4) h (fun _ => rfl) (by decide) ?_)
            intro _
            refine st1 ?_
            rw [fl_thalweglaw02_HullLives_30, eg_thalweglaw02_HullLives_30, ag_thalweglaw02_HullLives_30]
            (conv => arg 1; whnf)
            refine st1 ?_
            rcases e_bif hF with ⟨hb9, hF⟩ | ⟨hb9, hF⟩ <;> (first | rw [hb9] | (conv => arg 7; rw [hb9]))
            · refine st1 ?_
              have hF := e_some hF
              have hq : some _ = some _ := hF
              cases hq
              exact en1
            · refine st1 ?_
              obtain ⟨_, h, hF⟩ := e_bind hF
              (first | refine o_ia (enc := eTHullPlate) (s := 4) h (fun _ => rfl) (by decide) ?_ | refine o_iaT (enc := eTHullPlate) (s := 4) h (fun _ => rfl) (by decide) ?_)
              intro _
              refine st1 ?_
              exact k_loopF (e_some hF) hx1 _ [(6, _), (15, _)] ⟨sT, sS, by rfl, by rfl⟩
          · refine st1 ?_
            have hF := e_some hF
            rcases e_bif hF with ⟨hb10, hF⟩ | ⟨hb10, hF⟩ <;> (first | rw [hb10] | (conv => arg 7; rw [hb10]))
            · refine st1 ?_
              rw [fl_thalweglaw02_HullLives_25, eg_thalweglaw02_HullLives_25, ag_thalweglaw02_HullLives_25]
              (conv => arg 1; whnf)
              refine st1 ?_
              rcases e_bif hF with ⟨hb11, hF⟩ | ⟨hb11, hF⟩ <;> (first | rw [hb11] | (conv => arg 7; rw [hb11]))
              · refine st1 ?_
                rcases e_bif hF with ⟨hb12, hF⟩ | ⟨hb12, hF⟩ <;> (first | rw [hb12] | (conv => arg 7; rw [hb12]))
                · refine st1 ?_
                  obtain ⟨_, h, hF⟩ := e_bind hF
                  (first | refine g_call h lv1 ?_ | refine g_callT h lv1 ?_)
                  (conv => arg 1; whnf)
                  refine st1 ?_
                  have hq : some _ = some _ := hF
                  cases hq
                  exact en1
                · refine st1 ?_
                  have hq : some _ = some _ := hF
                  cases hq
                  exact en1
              · refine st1 ?_
                have hq : some _ = some _ := hF
                cases hq
                exact en1
            · refine st1 ?_
              have hq : some _ = some _ := hF
              cases hq
              exact en1
      · refine st1 ?_
        refine st_loopF (e_assoc hF) _ [(6, _), (15, _)] ⟨sT, sS, by rfl, by rfl⟩ ?_
        · rintro n _ _ x hx1 hF
          (conv => arg 7; whnf); (conv => arg 8; whnf); (conv => arg 9; whnf)
          refine st1 ?_
          rcases e_bif hF with ⟨hb17, hF⟩ | ⟨hb17, hF⟩ <;> (first | rw [hb17] | (conv => arg 7; rw [hb17]))
          · refine st1 ?_
            obtain ⟨_, hi21, hF⟩ := e_bind hF
            (first | refine go_req (oidx_ok hi21 (by decide)) ?_ | refine goT_req (oidx_ok hi21 (by decide)) ?_)
            (conv => arg 1; whnf)
            refine st1 ?_
            (first | refine o_ldA (enc := eTHullPlate) (s := 4) hi21 (fun _ => rfl) (by decide) ?_ | refine o_ldB (enc := eTHullPlate) (s := 4) hi21 (fun _ => rfl) (by decide) ?_ | refine o_ldC (enc := eTHullPlate) (s := 4) hi21 (fun _ => rfl) (by decide) ?_ | refine o_ldD (enc := eTHullPlate) (s := 4) hi21 (fun _ => rfl) (by decide) ?_ | refine o_ldAT (enc := eTHullPlate) (s := 4) hi21 (fun _ => rfl) (by decide) ?_ | refine o_ldBT (enc := eTHullPlate) (s := 4) hi21 (fun _ => rfl) (by decide) ?_ | refine o_ldCT (enc := eTHullPlate) (s := 4) hi21 (fun _ => rfl) (by decide) ?_ | refine o_ldDT (enc := eTHullPlate) (s := 4) hi21 (fun _ => rfl) (by decide) ?_)
            (conv => arg 1; whnf)
            refine st1 ?_
            obtain ⟨_, h, hF⟩ := e_bind hF
            (first | refine o_ia (enc := eTHullPlate) (s := 4) h (fun _ => rfl) (by decide) ?_ | refine o_iaT (enc := eTHullPlate) (s := 4) h (fun _ => rfl) (by decide) ?_)
            intro _
            refine st1 ?_
            rw [fl_thalweglaw02_HullLives_30, eg_thalweglaw02_HullLives_30, ag_thalweglaw02_HullLives_30]
            (conv => arg 1; whnf)
            refine st1 ?_
            rcases e_bif hF with ⟨hb18, hF⟩ | ⟨hb18, hF⟩ <;> (first | rw [hb18] | (conv => arg 7; rw [hb18]))
            · refine st1 ?_
              have hF := e_some hF
              have hq : some _ = some _ := hF
              cases hq
              exact en1
            · refine st1 ?_
              obtain ⟨_, h, hF⟩ := e_bind hF
              (first | refine o_ia (enc := eTHullPlate) (s := 4) h (fun _ => rfl) (by decide) ?_ | refine o_iaT (enc := eTHullPlate) (s := 4) h (fun _ => rfl) (by decide) ?_)
              intro _
              refine st1 ?_
              exact k_loopF (e_some hF) hx1 _ [(6, _), (15, _)] ⟨sT, sS, by rfl, by rfl⟩
          · refine st1 ?_
            have hF := e_some hF
            rcases e_bif hF with ⟨hb19, hF⟩ | ⟨hb19, hF⟩ <;> (first | rw [hb19] | (conv => arg 7; rw [hb19]))
            · refine st1 ?_
              rw [fl_thalweglaw02_HullLives_25, eg_thalweglaw02_HullLives_25, ag_thalweglaw02_HullLives_25]
              (conv => arg 1; whnf)
              refine st1 ?_
              rcases e_bif hF with ⟨hb20, hF⟩ | ⟨hb20, hF⟩ <;> (first | rw [hb20] | (conv => arg 7; rw [hb20]))
              · refine st1 ?_
                rcases e_bif hF with ⟨hb21, hF⟩ | ⟨hb21, hF⟩ <;> (first | rw [hb21] | (conv => arg 7; rw [hb21]))
                · refine st1 ?_
                  obtain ⟨_, h, hF⟩ := e_bind hF
                  (first | refine g_call h lv1 ?_ | refine g_callT h lv1 ?_)
                  (conv => arg 1; whnf)
                  refine st1 ?_
                  have hq : some _ = some _ := hF
                  cases hq
                  exact en1
                · refine st1 ?_
                  have hq : some _ = some _ := hF
                  cases hq
                  exact en1
              · refine st1 ?_
                have hq : some _ = some _ := hF
                cases hq
                exact en1
            · refine st1 ?_
              have hq : some _ = some _ := hF
              cases hq
              exact en1
    · refine st1 ?_
      rcases e_bif hF with ⟨hb22, hF⟩ | ⟨hb22, hF⟩ <;> (first | rw [hb22] | (conv => arg 7; rw [hb22]))
      · refine st1 ?_
        refine st_loopF (e_assoc hF) _ [(6, _), (15, _)] ⟨sT, sS, by rfl, by rfl⟩ ?_
        · rintro n _ _ x hx1 hF
          (conv => arg 7; whnf); (conv => arg 8; whnf); (conv => arg 9; whnf)
          refine st1 ?_
          rcases e_bif hF with ⟨hb27, hF⟩ | ⟨hb27, hF⟩ <;> (first | rw [hb27] | (conv => arg 7; rw [hb27]))
          · refine st1 ?_
            obtain ⟨_, hi32, hF⟩ := e_bind hF
            (first | refine go_req (oidx_ok hi32 (by decide)) ?_ | refine goT_req (oidx_ok hi32 (by decide)) ?_)
            (conv => arg 1; whnf)
            refine st1 ?_
            (first | refine o_ldA (enc := eTHullPlate) (s := 4) hi32 (fun _ => rfl) (by decide) ?_ | refine o_ldB (enc := eTHullPlate) (s := 4) hi32 (fun _ => rfl) (by decide) ?_ | refine o_ldC (enc := eTHullPlate) (s := 4) hi32 (fun _ => rfl) (by decide) ?_ | refine o_ldD (enc := eTHullPlate) (s := 4) hi32 (fun _ => rfl) (by decide) ?_ | refine o_ldAT (enc := eTHullPlate) (s := 4) hi32 (fun _ => rfl) (by decide) ?_ | refine o_ldBT (enc := eTHullPlate) (s := 4) hi32 (fun _ => rfl) (by decide) ?_ | refine o_ldCT (enc := eTHullPlate) (s := 4) hi32 (fun _ => rfl) (by decide) ?_ | refine o_ldDT (enc := eTHullPlate) (s := 4) hi32 (fun _ => rfl) (by decide) ?_)
            (conv => arg 1; whnf)
            refine st1 ?_
            obtain ⟨_, h, hF⟩ := e_bind hF
            (first | refine o_ia (enc := eTHullPlate) (s := 4) h (fun _ => rfl) (by decide) ?_ | refine o_iaT (enc := eTHullPlate) (s := 4) h (fun _ => rfl) (by decide) ?_)
            intro _
            refine st1 ?_
            rw [fl_thalweglaw02_HullLives_30, eg_thalweglaw02_HullLives_30, ag_thalweglaw02_HullLives_30]
            (conv => arg 1; whnf)
            refine st1 ?_
            rcases e_bif hF with ⟨hb28, hF⟩ | ⟨hb28, hF⟩ <;> (first | rw [hb28] | (conv => arg 7; rw [hb28]))
            · refine st1 ?_
              have hF := e_some hF
              have hq : some _ = some _ := hF
              cases hq
              exact en1
            · refine st1 ?_
              obtain ⟨_, h, hF⟩ := e_bind hF
              (first | refine o_ia (enc := eTHullPlate) (s := 4) h (fun _ => rfl) (by decide) ?_ | refine o_iaT (enc := eTHullPlate) (s := 4) h (fun _ => rfl) (by decide) ?_)
              intro _
              refine st1 ?_
              exact k_loopF (e_some hF) hx1 _ [(6, _), (15, _)] ⟨sT, sS, by rfl, by rfl⟩
          · refine st1 ?_
            have hF := e_some hF
            rcases e_bif hF with ⟨hb29, hF⟩ | ⟨hb29, hF⟩ <;> (first | rw [hb29] | (conv => arg 7; rw [hb29]))
            · refine st1 ?_
              rw [fl_thalweglaw02_HullLives_25, eg_thalweglaw02_HullLives_25, ag_thalweglaw02_HullLives_25]
              (conv => arg 1; whnf)
              refine st1 ?_
              rcases e_bif hF with ⟨hb30, hF⟩ | ⟨hb30, hF⟩ <;> (first | rw [hb30] | (conv => arg 7; rw [hb30]))
              · refine st1 ?_
                rcases e_bif hF with ⟨hb31, hF⟩ | ⟨hb31, hF⟩ <;> (first | rw [hb31] | (conv => arg 7; rw [hb31]))
                · refine st1 ?_
                  obtain ⟨_, h, hF⟩ := e_bind hF
                  (first | refine g_call h lv1 ?_ | refine g_callT h lv1 ?_)
                  (conv => arg 1; whnf)
                  refine st1 ?_
                  have hq : some _ = some _ := hF
                  cases hq
                  exact en1
                · refine st1 ?_
                  have hq : some _ = some _ := hF
                  cases hq
                  exact en1
              · refine st1 ?_
                have hq : some _ = some _ := hF
                cases hq
                exact en1
            · refine st1 ?_
              have hq : some _ = some _ := hF
              cases hq
              exact en1
      · refine st1 ?_
        refine st_loopF (e_assoc hF) _ [(6, _), (15, _)] ⟨sT, sS, by rfl, by rfl⟩ ?_
        · rintro n ⟨_, _⟩ _ x hx1 hF
          (conv => arg 7; whnf); (conv => arg 8; whnf); (conv => arg 9; whnf)
          refine st1 ?_
          rcases e_bif hF with ⟨hb49, hF⟩ | ⟨hb49, hF⟩ <;> (first | rw [hb49] | (conv => arg 7; rw [hb49]))
          · refine st1 ?_
            obtain ⟨_, hi44, hF⟩ := e_bind hF
            (first | refine go_req (oidx_ok hi44 (by decide)) ?_ | refine goT_req (oidx_ok hi44 (by decide)) ?_)
            (conv => arg 1; whnf)
            refine st1 ?_
            (first | refine o_ldA (enc := eTHullPlate) (s := 4) hi44 (fun _ => rfl) (by decide) ?_ | refine o_ldB (enc := eTHullPlate) (s := 4) hi44 (fun _ => rfl) (by decide) ?_ | refine o_ldC (enc := eTHullPlate) (s := 4) hi44 (fun _ => rfl) (by decide) ?_ | refine o_ldD (enc := eTHullPlate) (s := 4) hi44 (fun _ => rfl) (by decide) ?_ | refine o_ldAT (enc := eTHullPlate) (s := 4) hi44 (fun _ => rfl) (by decide) ?_ | refine o_ldBT (enc := eTHullPlate) (s := 4) hi44 (fun _ => rfl) (by decide) ?_ | refine o_ldCT (enc := eTHullPlate) (s := 4) hi44 (fun _ => rfl) (by decide) ?_ | refine o_ldDT (enc := eTHullPlate) (s := 4) hi44 (fun _ => rfl) (by decide) ?_)
            (conv => arg 1; whnf)
            refine st1 ?_
            obtain ⟨_, h, hF⟩ := e_bind hF
            (first | refine o_ia (enc := eTHullPlate) (s := 4) h (fun _ => rfl) (by decide) ?_ | refine o_iaT (enc := eTHullPlate) (s := 4) h (fun _ => rfl) (by decide) ?_)
            intro _
            refine st1 ?_
            rw [fl_thalweglaw02_HullLives_30, eg_thalweglaw02_HullLives_30, ag_thalweglaw02_HullLives_30]
            (conv => arg 1; whnf)
            refine st1 ?_
            rcases e_bif hF with ⟨hb50, hF⟩ | ⟨hb50, hF⟩ <;> (first | rw [hb50] | (conv => arg 7; rw [hb50]))
            · refine st1 ?_
              have hF := e_some hF
              have hq : some _ = some _ := hF
              cases hq
              exact en1
            · refine st1 ?_
              obtain ⟨_, h, hF⟩ := e_bind hF
              (first | refine o_ia (enc := eTHullPlate) (s := 4) h (fun _ => rfl) (by decide) ?_ | refine o_iaT (enc := eTHullPlate) (s := 4) h (fun _ => rfl) (by decide) ?_)
              intro _
              refine st1 ?_
              rcases e_bif hF with ⟨hb51, hF⟩ | ⟨hb51, hF⟩ <;> (first | rw [hb51] | (conv => arg 7; rw [hb51]))
              · refine st1 ?_
                rcases e_bif hF with ⟨hb52, hF⟩ | ⟨hb52, hF⟩ <;> (first | rw [hb52] | (conv => arg 7; rw [hb52]))
                · refine st1 ?_
                  exact k_loopF (e_some hF) hx1 _ [(6, _), (15, _)] ⟨sT, sS, by rfl, by rfl⟩
                · refine st1 ?_
                  rcases e_bif hF with ⟨hb53, hF⟩ | ⟨hb53, hF⟩ <;> (first | rw [hb53] | (conv => arg 7; rw [hb53]))
                  · refine st1 ?_
                    exact k_loopF (e_some hF) hx1 _ [(6, _), (15, _)] ⟨sT, sS, by rfl, by rfl⟩
                  · refine st1 ?_
                    rcases e_bif hF with ⟨hb54, hF⟩ | ⟨hb54, hF⟩ <;> (first | rw [hb54] | (conv => arg 7; rw [hb54]))
                    · refine st1 ?_
                      exact k_loopF (e_some hF) hx1 _ [(6, _), (15, _)] ⟨sT, sS, by rfl, by rfl⟩
                    · refine st1 ?_
                      rcases e_bif hF with ⟨hb55, hF⟩ | ⟨hb55, hF⟩ <;> (first | rw [hb55] | (conv => arg 7; rw [hb55]))
                      · refine st1 ?_
                        exact k_loopF (e_some hF) hx1 _ [(6, _), (15, _)] ⟨sT, sS, by rfl, by rfl⟩
                      · refine st1 ?_
                        rcases e_bif hF with ⟨hb56, hF⟩ | ⟨hb56, hF⟩ <;> (first | rw [hb56] | (conv => arg 7; rw [hb56]))
                        · refine st1 ?_
                          exact k_loopF (e_some hF) hx1 _ [(6, _), (15, _)] ⟨sT, sS, by rfl, by rfl⟩
                        · refine st1 ?_
                          rcases e_bif hF with ⟨hb57, hF⟩ | ⟨hb57, hF⟩ <;> (first | rw [hb57] | (conv => arg 7; rw [hb57]))
                          · refine st1 ?_
                            exact k_loopF (e_some hF) hx1 _ [(6, _), (15, _)] ⟨sT, sS, by rfl, by rfl⟩
                          · refine st1 ?_
                            exact k_loopF (e_some hF) hx1 _ [(6, _), (15, _)] ⟨sT, sS, by rfl, by rfl⟩
              · refine st1 ?_
                exact k_loopF (e_some hF) hx1 _ [(6, _), (15, _)] ⟨sT, sS, by rfl, by rfl⟩
          · refine st1 ?_
            have hF := e_some hF
            rcases e_bif hF with ⟨hb58, hF⟩ | ⟨hb58, hF⟩ <;> (first | rw [hb58] | (conv => arg 7; rw [hb58]))
            · refine st1 ?_
              rcases e_bif hF with ⟨hb59, hF⟩ | ⟨hb59, hF⟩ <;> (first | rw [hb59] | (conv => arg 7; rw [hb59]))
              · refine st1 ?_
                rcases e_bif hF with ⟨hb60, hF⟩ | ⟨hb60, hF⟩ <;> (first | rw [hb60] | (conv => arg 7; rw [hb60]))
                · refine st1 ?_
                  rw [fl_thalweglaw02_HullLives_25, eg_thalweglaw02_HullLives_25, ag_thalweglaw02_HullLives_25]
                  (conv => arg 1; whnf)
                  refine st1 ?_
                  rcases e_bif hF with ⟨hb61, hF⟩ | ⟨hb61, hF⟩ <;> (first | rw [hb61] | (conv => arg 7; rw [hb61]))
                  · refine st1 ?_
                    rcases e_bif hF with ⟨hb62, hF⟩ | ⟨hb62, hF⟩ <;> (first | rw [hb62] | (conv => arg 7; rw [hb62]))
                    · refine st1 ?_
                      obtain ⟨_, h, hF⟩ := e_bind hF
                      (first | refine g_call h lv1 ?_ | refine g_callT h lv1 ?_)
                      (conv => arg 1; whnf)
                      refine st1 ?_
                      have hq : some _ = some _ := hF
                      cases hq
                      exact en1
                    · refine st1 ?_
                      have hq : some _ = some _ := hF
                      cases hq
                      exact en1
                  · refine st1 ?_
                    have hq : some _ = some _ := hF
                    cases hq
                    exact en1
                · refine st1 ?_
                  have hq : some _ = some _ := hF
                  cases hq
                  exact en1
              · refine st1 ?_
                rcases e_bif hF with ⟨hb63, hF⟩ | ⟨hb63, hF⟩ <;> (first | rw [hb63] | (conv => arg 7; rw [hb63]))
                · refine st1 ?_
                  rcases e_bif hF with ⟨hb64, hF⟩ | ⟨hb64, hF⟩ <;> (first | rw [hb64] | (conv => arg 7; rw [hb64]))
                  · refine st1 ?_
                    rw [fl_thalweglaw02_HullLives_25, eg_thalweglaw02_HullLives_25, ag_thalweglaw02_HullLives_25]
                    (conv => arg 1; whnf)
                    refine st1 ?_
                    rcases e_bif hF with ⟨hb65, hF⟩ | ⟨hb65, hF⟩ <;> (first | rw [hb65] | (conv => arg 7; rw [hb65]))
                    · refine st1 ?_
                      rcases e_bif hF with ⟨hb66, hF⟩ | ⟨hb66, hF⟩ <;> (first | rw [hb66] | (conv => arg 7; rw [hb66]))
                      · refine st1 ?_
                        obtain ⟨_, h, hF⟩ := e_bind hF
                        (first | refine g_call h lv1 ?_ | refine g_callT h lv1 ?_)
                        (conv => arg 1; whnf)
                        refine st1 ?_
                        have hq : some _ = some _ := hF
                        cases hq
                        exact en1
                      · refine st1 ?_
                        have hq : some _ = some _ := hF
                        cases hq
                        exact en1
                    · refine st1 ?_
                      have hq : some _ = some _ := hF
                      cases hq
                      exact en1
                  · refine st1 ?_
                    have hq : some _ = some _ := hF
                    cases hq
                    exact en1
                · refine st1 ?_
                  (first | rw [(eqT_ne hb58)] | (conv => arg 7; rw [(eqT_ne hb58)]))
                  refine st1 ?_
                  obtain ⟨_, h, hF⟩ := e_bind hF
                  (first | refine g_call h lv1 ?_ | refine g_callT h lv1 ?_)
                  (conv => arg 1; whnf)
                  refine st1 ?_
                  rcases e_bif hF with ⟨hb67, hF⟩ | ⟨hb67, hF⟩ <;> (first | rw [hb67] | (conv => arg 7; rw [hb67]))
                  · refine st1 ?_
                    rw [fl_thalweglaw02_HullLives_25, eg_thalweglaw02_HullLives_25, ag_thalweglaw02_HullLives_25]
                    (conv => arg 1; whnf)
                    refine st1 ?_
                    rcases e_bif hF with ⟨hb68, hF⟩ | ⟨hb68, hF⟩ <;> (first | rw [hb68] | (conv => arg 7; rw [hb68]))
                    · refine st1 ?_
                      rcases e_bif hF with ⟨hb69, hF⟩ | ⟨hb69, hF⟩ <;> (first | rw [hb69] | (conv => arg 7; rw [hb69]))
                      · refine st1 ?_
                        obtain ⟨_, h, hF⟩ := e_bind hF
                        (first | refine g_call h lv1 ?_ | refine g_callT h lv1 ?_)
                        (conv => arg 1; whnf)
                        refine st1 ?_
                        have hq : some _ = some _ := hF
                        cases hq
                        exact en1
                      · refine st1 ?_
                        have hq : some _ = some _ := hF
                        cases hq
                        exact en1
                    · refine st1 ?_
                      have hq : some _ = some _ := hF
                      cases hq
                      exact en1
                  · refine st1 ?_
                    have hq : some _ = some _ := hF
                    cases hq
                    exact en1
            · refine st1 ?_
              (first | rw [(eqF_ne hb58)] | (conv => arg 7; rw [(eqF_ne hb58)]))
              refine st1 ?_
              rcases e_bif hF with ⟨hb70, hF⟩ | ⟨hb70, hF⟩ <;> (first | rw [hb70] | (conv => arg 7; rw [hb70]))
              · refine st1 ?_
                rw [fl_thalweglaw02_HullLives_25, eg_thalweglaw02_HullLives_25, ag_thalweglaw02_HullLives_25]
                (conv => arg 1; whnf)
                refine st1 ?_
                rcases e_bif hF with ⟨hb71, hF⟩ | ⟨hb71, hF⟩ <;> (first | rw [hb71] | (conv => arg 7; rw [hb71]))
                · refine st1 ?_
                  rcases e_bif hF with ⟨hb72, hF⟩ | ⟨hb72, hF⟩ <;> (first | rw [hb72] | (conv => arg 7; rw [hb72]))
                  · refine st1 ?_
                    obtain ⟨_, h, hF⟩ := e_bind hF
                    (first | refine g_call h lv1 ?_ | refine g_callT h lv1 ?_)
                    (conv => arg 1; whnf)
                    refine st1 ?_
                    have hq : some _ = some _ := hF
                    cases hq
                    exact en1
                  · refine st1 ?_
                    have hq : some _ = some _ := hF
                    cases hq
                    exact en1
                · refine st1 ?_
                  have hq : some _ = some _ := hF
                  cases hq
                  exact en1
              · refine st1 ?_
                have hq : some _ = some _ := hF
                cases hq
                exact en1

end Go.Ev
