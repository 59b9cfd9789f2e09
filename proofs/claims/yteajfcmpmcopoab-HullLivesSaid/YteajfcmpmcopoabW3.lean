/- A part of the proof of HullLives. -/
import Derived.Test.YteajfcmpmcopoabProg
import Derived.Test.YteajfcmpmcopoabW2
/- The functions do what is said. -/
set_option linter.unusedVariables false
set_option linter.unusedSimpArgs false
namespace Go.Ev
open Go.Proofs
set_option maxHeartbeats 8000000
set_option maxRecDepth 100000
theorem mix : Try.prog.follows .mixedOrders = true := by kernel_rfl
@[reducible] noncomputable def c_numbers_Every_HullPlate (C : FuncId → Option Con) : Con := conK F_numbers_Every_HullPlate (fun x => match x with | (a0, a1, g, caps) => [(V.sl (recs eTHullPlate (a0)) (a0).length), (V.fn g caps)]) (fun x => match x with | (a0, a1, g, caps) => Callable (ext C []) g caps (fun x => match x with | (q0) => [(V.agg (eTHullPlate q0))]) (fun r => (V.v (.bool (r)))) a1) (fun r => (V.v (.bool (r))))
theorem h_numbers_Every_HullPlate {C : FuncId → Option Con} (hC : CtxOK Try.prog C) : Has Try.prog 32 (c_numbers_Every_HullPlate C) := by
  refine hasK (ext_nil hC) mix Try.func32 rfl (by kernel_rfl) ?_
  rintro ⟨a0, a1, g, caps⟩ r hcl hF
  obtain ⟨hcaps, c, hc, hce, hcall⟩ := id hcl
  refine ⟨of_decide_eq_true rfl, ?_⟩
  refine st1 ?_
  refine st_loopF (e_assoc hF) () [] ⟨sT, sS, by rfl, by rfl⟩ ?_
  · rintro n _ _ x hx1 hF
    (conv => arg 7; whnf); (conv => arg 8; whnf); (conv => arg 9; whnf)
    refine st1 ?_
    rcases e_bif hF with ⟨hb5, hF⟩ | ⟨hb5, hF⟩ <;> (first | rw [hb5] | (conv => arg 7; rw [hb5]))
    · refine st1 ?_
      obtain ⟨_, h, hF⟩ := e_bind hF
      (first | refine o_ia (enc := eTHullPlate) (s := 4) h (fun _ => rfl) (by decide) ?_ | refine o_iaT (enc := eTHullPlate) (s := 4) h (fun _ => rfl) (by decide) ?_)
      intro _
      refine st1 ?_
      obtain ⟨_, h, hF⟩ := e_bind hF
      rw [hc]
      (conv => arg 1; whnf)
      rw [hce]
      (conv => arg 1; whnf)
      (first | refine go_map hcaps rfl ?_ | refine goT_map hcaps rfl ?_)
      (conv => arg 1; whnf)
      obtain ⟨z, hz1, hz2, hz3⟩ := hcall _ _ h
      (first | refine go_exi z ⟨levs_eq hz1.symm, hz2⟩ ?_ | refine goT_exi z ⟨levs_eq hz1.symm, hz2⟩ ?_)
      rw [hz3]
      (conv => arg 1; whnf)
      refine st1 ?_
      rcases e_bif hF with ⟨hb6, hF⟩ | ⟨hb6, hF⟩ <;> (first | rw [hb6] | (conv => arg 7; rw [hb6]))
      · refine st1 ?_
        have hF := e_some hF
        have hq : some _ = some _ := hF
        cases hq
        exact en1
      · refine st1 ?_
        exact k_loopF (e_some hF) hx1 () [] ⟨sT, sS, by rfl, by rfl⟩
    · refine st1 ?_
      have hF := e_some hF
      have hq : some _ = some _ := hF
      cases hq
      exact en1


@[reducible] noncomputable def c_numbers_Every_int (C : FuncId → Option Con) : Con := conK F_numbers_Every_int (fun x => match x with | (a0, a1, g, caps) => [(V.sl (recs (eI .i64) (a0)) (a0).length), (V.fn g caps)]) (fun x => match x with | (a0, a1, g, caps) => Callable (ext C []) g caps (fun x => match x with | (q0) => [(V.v (.int .i64 (q0)))]) (fun r => (V.v (.bool (r)))) a1) (fun r => (V.v (.bool (r))))
theorem h_numbers_Every_int {C : FuncId → Option Con} (hC : CtxOK Try.prog C) : Has Try.prog 61 (c_numbers_Every_int C) := by
  refine hasK (ext_nil hC) mix Try.func61 rfl (by kernel_rfl) ?_
  rintro ⟨a0, a1, g, caps⟩ r hcl hF
  obtain ⟨hcaps, c, hc, hce, hcall⟩ := id hcl
  refine ⟨of_decide_eq_true rfl, ?_⟩
  refine st1 ?_
  refine st_loopF (e_assoc hF) () [] ⟨sT, sS, by rfl, by rfl⟩ ?_
  · rintro n _ _ x hx1 hF
    (conv => arg 7; whnf); (conv => arg 8; whnf); (conv => arg 9; whnf)
    refine st1 ?_
    rcases e_bif hF with ⟨hb5, hF⟩ | ⟨hb5, hF⟩ <;> (first | rw [hb5] | (conv => arg 7; rw [hb5]))
    · refine st1 ?_
      obtain ⟨_, h, hF⟩ := e_bind hF
      (first | refine o_ia (enc := (eI .i64)) (s := 1) h (fun _ => rfl) (by decide) ?_ | refine o_iaT (enc := (eI .i64)) (s := 1) h (fun _ => rfl) (by decide) ?_)
      intro _
      refine st1 ?_
      obtain ⟨_, h, hF⟩ := e_bind hF
      rw [hc]
      (conv => arg 1; whnf)
      rw [hce]
      (conv => arg 1; whnf)
      (first | refine go_map hcaps rfl ?_ | refine goT_map hcaps rfl ?_)
      (conv => arg 1; whnf)
      obtain ⟨z, hz1, hz2, hz3⟩ := hcall _ _ h
      (first | refine go_exi z ⟨levs_eq hz1.symm, hz2⟩ ?_ | refine goT_exi z ⟨levs_eq hz1.symm, hz2⟩ ?_)
      rw [hz3]
      (conv => arg 1; whnf)
      refine st1 ?_
      rcases e_bif hF with ⟨hb6, hF⟩ | ⟨hb6, hF⟩ <;> (first | rw [hb6] | (conv => arg 7; rw [hb6]))
      · refine st1 ?_
        have hF := e_some hF
        have hq : some _ = some _ := hF
        cases hq
        exact en1
      · refine st1 ?_
        exact k_loopF (e_some hF) hx1 () [] ⟨sT, sS, by rfl, by rfl⟩
    · refine st1 ?_
      have hF := e_some hF
      have hq : some _ = some _ := hF
      cases hq
      exact en1


@[reducible] noncomputable def c_numbers_Within_1 : Con := conF F_numbers_Within_1 (fun x => match x with | (a0, c0, c1) => [(V.v (.int .i64 (a0))), (V.fptr [(V.v (.int .i64 (c0)))]), (V.fptr [(V.v (.int .i64 (c1)))])]) (fun r => (V.v (.bool (r))))
theorem h_numbers_Within_1 : Has Try.prog 62 c_numbers_Within_1 := by
  refine hasF ctx_nil mix Try.func62 rfl (by kernel_rfl) ?_
  rintro ⟨a0, c0, c1⟩ r hF
  refine ⟨of_decide_eq_true rfl, ?_⟩
  refine st1 ?_
  rcases e_bif hF with ⟨hb1, hF⟩ | ⟨hb1, hF⟩ <;> (first | rw [hb1] | (conv => arg 7; rw [hb1]))
  · refine st1 ?_
    have hq : some _ = some _ := hF
    cases hq
    exact en1
  · refine st1 ?_
    have hq : some _ = some _ := hF
    cases hq
    exact en1


@[reducible] noncomputable def c_numbers_Within : Con := conF F_numbers_Within (fun x => match x with | (a0, a1, a2) => [(V.v (.int .i64 (a0))), (V.v (.int .i64 (a1))), (V.sl (recs (eI .i64) (a2)) (a2).length)]) (fun r => (V.v (.bool (r))))
theorem h_numbers_Within : Has Try.prog 35 c_numbers_Within := by
  refine hasF (ctx_cons (h_numbers_Every_int (ctx_cons h_numbers_Within_1 ctx_nil)) ctx_nil) mix Try.func35 rfl (by kernel_rfl) ?_
  rintro ⟨a0, a1, a2⟩ r hF
  refine ⟨of_decide_eq_true rfl, ?_⟩
  refine st1 ?_
  obtain ⟨_, h, hF⟩ := e_bind hF
  (first | refine g_hcall h lv1 (callable_conF rfl rfl (fun _ => rfl)) ?_ | refine g_hcallT h lv1 (callable_conF rfl rfl (fun _ => rfl)) ?_)
  (conv => arg 1; whnf)
  refine st1 ?_
  have hq : some _ = some _ := hF
  cases hq
  exact en1


@[reducible] noncomputable def c_numbers_Valid : Con := conF F_numbers_Valid (fun x => match x with | (a0, a1, a2) => [(V.agg (eTBounds a0)), (V.v (.int .i64 (a1))), (V.v (.int .i64 (a2)))]) (fun r => (V.v (.bool (r))))
theorem h_numbers_Valid : Has Try.prog 34 c_numbers_Valid := by
  refine hasF (ctx_cons h_numbers_Within ctx_nil) mix Try.func34 rfl (by kernel_rfl) ?_
  rintro ⟨a0, a1, a2⟩ r hF
  refine ⟨of_decide_eq_true rfl, ?_⟩
  refine st1 ?_
  rcases e_bif hF with ⟨hb1, hF⟩ | ⟨hb1, hF⟩ <;> (first | rw [hb1] | (conv => arg 7; rw [hb1]))
  · refine st1 ?_
    obtain ⟨_, h, hF⟩ := e_bind hF
    (first | refine g_call h lv1 ?_ | refine g_callT h lv1 ?_)
    (conv => arg 1; whnf)
    refine st1 ?_
    have hq : some _ = some _ := hF
    cases hq
    exact en1
  · refine st1 ?_
    have hq : some _ = some _ := hF
    cases hq
    exact en1


@[reducible] noncomputable def c_hull_Life_1 : Con := conF F_hull_Life_1 (fun x => match x with | (a0) => [(V.agg (eTHullPlate a0))]) (fun r => (V.v (.bool (r))))
theorem h_hull_Life_1 : Has Try.prog 33 c_hull_Life_1 := by
  refine hasF (ctx_cons h_numbers_Valid ctx_nil) mix Try.func33 rfl (by kernel_rfl) ?_
  rintro a0 r hF
  refine ⟨of_decide_eq_true rfl, ?_⟩
  refine st1 ?_
  obtain ⟨_, h, hF⟩ := e_bind hF
  (first | refine g_call h lv1 ?_ | refine g_callT h lv1 ?_)
  (conv => arg 1; whnf)
  refine st1 ?_
  rcases e_bif hF with ⟨hb1, hF⟩ | ⟨hb1, hF⟩ <;> (first | rw [hb1] | (conv => arg 7; rw [hb1]))
  · refine st1 ?_
    obtain ⟨_, h, hF⟩ := e_bind hF
    (first | refine g_call h lv1 ?_ | refine g_callT h lv1 ?_)
    (conv => arg 1; whnf)
    refine st1 ?_
    have hq : some _ = some _ := hF
    cases hq
    exact en1
  · refine st1 ?_
    have hq : some _ = some _ := hF
    cases hq
    exact en1


@[reducible] noncomputable def c_hull_lasts : Con := conF F_hull_lasts (fun x => match x with | (a0, a1) => [(V.v (.int .i64 (a0))), (V.v (.int .i64 (a1)))]) (fun r => (V.v (.int .i64 (r))))
theorem h_hull_lasts : Has Try.prog 36 c_hull_lasts := by
  refine hasF ctx_nil mix Try.func36 rfl (by kernel_rfl) ?_
  rintro ⟨a0, a1⟩ r hF
  refine ⟨of_decide_eq_true rfl, ?_⟩
  refine st1 ?_
  rcases e_bif hF with ⟨hb1, hF⟩ | ⟨hb1, hF⟩ <;> (first | rw [hb1] | (conv => arg 7; rw [hb1]))
  · refine st1 ?_
    have hq : some _ = some _ := hF
    cases hq
    exact en1
  · refine st1 ?_
    rcases e_bif hF with ⟨hb2, hF⟩ | ⟨hb2, hF⟩ <;> (first | rw [hb2] | (conv => arg 7; rw [hb2]))
    · refine st1 ?_
      have hq : some _ = some _ := hF
      cases hq
      exact en1
    · refine st1 ?_
      obtain ⟨_, h, hF⟩ := e_bind hF
      (first | refine go_req (nz_ne h) ?_ | refine goT_req (nz_ne h) ?_)
      (conv => arg 1; whnf)
      refine st1 ?_
      have hq : some _ = some _ := hF
      cases hq
      exact en1


@[reducible] noncomputable def c_hull_Life : Con := conF F_hull_Life (fun x => match x with | (a0, a1) => [(V.sl (recs eTHullPlate (a0)) (a0).length), (V.v (.int .i64 (a1)))]) (fun r => V.tup [(V.agg (eTBounds r.1)), (V.v (.int .i64 (r.2.1))), (V.v (.int .i64 (r.2.2)))])
theorem h_hull_Life : Has Try.prog 10 c_hull_Life := by
  refine hasF (ctx_cons (h_numbers_Every_HullPlate (ctx_cons h_hull_Life_1 ctx_nil)) (ctx_cons h_hull_lasts (ctx_cons h_numbers_Within ctx_nil))) mix Try.func10 rfl (by kernel_rfl) ?_
  rintro ⟨a0, a1⟩ r hF
  refine ⟨of_decide_eq_true rfl, ?_⟩
  refine st1 ?_
  rcases e_bif hF with ⟨hb1, hF⟩ | ⟨hb1, hF⟩ <;> (first | rw [hb1] | (conv => arg 7; rw [hb1]))
  · refine st1 ?_
    have hq : some _ = some _ := hF
    cases hq
    exact en1
  · refine st1 ?_
    rcases e_bif hF with ⟨hb2, hF⟩ | ⟨hb2, hF⟩ <;> (first | rw [hb2] | (conv => arg 7; rw [hb2]))
    · refine st1 ?_
      have hq : some _ = some _ := hF
      cases hq
      exact en1
    · refine st1 ?_
      obtain ⟨_, h, hF⟩ := e_bind hF
      (first | refine g_hcall h lv1 (callable_conF rfl rfl (fun _ => rfl)) ?_ | refine g_hcallT h lv1 (callable_conF rfl rfl (fun _ => rfl)) ?_)
      (conv => arg 1; whnf)
      refine st1 ?_
      rcases e_bif hF with ⟨hb3, hF⟩ | ⟨hb3, hF⟩ <;> (first | rw [hb3] | (conv => arg 7; rw [hb3]))
      · refine st1 ?_
        have hq : some _ = some _ := hF
        cases hq
        exact en1
      · refine st1 ?_
        obtain ⟨_, h, hF⟩ := e_bind hF
        (first | refine g_call h lv1 ?_ | refine g_callT h lv1 ?_)
        (conv => arg 1; whnf)
        refine st1 ?_
        rcases e_bif hF with ⟨hb4, hF⟩ | ⟨hb4, hF⟩ <;> (first | rw [hb4] | (conv => arg 7; rw [hb4]))
        · refine st1 ?_
          have hq : some _ = some _ := hF
          cases hq
          exact en1
        · refine st1 ?_
          refine st_loopF (e_assoc hF) () [(0, _)] ⟨sT, sS, by rfl, by rfl⟩ ?_
          · rintro n ⟨_, _, _, _⟩ _ x hx1 hF
            (conv => arg 7; whnf); (conv => arg 8; whnf); (conv => arg 9; whnf)
            refine st1 ?_
            rcases e_bif hF with ⟨hb11, hF⟩ | ⟨hb11, hF⟩ <;> (first | rw [hb11] | (conv => arg 7; rw [hb11]))
            · refine st1 ?_
              obtain ⟨_, h, hF⟩ := e_bind hF
              (first | refine o_ia (enc := eTHullPlate) (s := 4) h (fun _ => rfl) (by decide) ?_ | refine o_iaT (enc := eTHullPlate) (s := 4) h (fun _ => rfl) (by decide) ?_)
              intro _
              refine st1 ?_
              obtain ⟨_, h, hF⟩ := e_bind hF
              (first | refine g_call h lv1 ?_ | refine g_callT h lv1 ?_)
              (conv => arg 1; whnf)
              refine st1 ?_
              rcases e_bif hF with ⟨hb12, hF⟩ | ⟨hb12, hF⟩ <;> (first | rw [hb12] | (conv => arg 7; rw [hb12]))
              · refine st1 ?_
                obtain ⟨_, h, hF⟩ := e_bind hF
                (first | refine g_call h lv1 ?_ | refine g_callT h lv1 ?_)
                (conv => arg 1; whnf)
                refine st1 ?_
                exact k_loopF (e_some hF) hx1 () [(0, _)] ⟨sT, sS, by rfl, by rfl⟩
              · refine st1 ?_
                obtain ⟨_, h, hF⟩ := e_bind hF
                (first | refine g_call h lv1 ?_ | refine g_callT h lv1 ?_)
                (conv => arg 1; whnf)
                refine st1 ?_
                exact k_loopF (e_some hF) hx1 () [(0, _)] ⟨sT, sS, by rfl, by rfl⟩
            · refine st1 ?_
              have hF := e_some hF
              have hq : some _ = some _ := hF
              cases hq
              exact en1


@[reducible] noncomputable def c_thalwegref02_Years : Con := conF F_thalwegref02_Years (fun x => match x with | (a0, a1, a2) => [(V.v (.int .i64 (a0))), (V.v (.int .i64 (a1))), (V.v (.int .i64 (a2)))]) (fun r => (V.v (.int .i64 (r))))
theorem h_thalwegref02_Years : Has Try.prog 37 c_thalwegref02_Years := by
  refine hasF ctx_nil mix Try.func37 rfl (by kernel_rfl) ?_
  rintro ⟨a0, a1, a2⟩ r hF
  refine ⟨of_decide_eq_true rfl, ?_⟩
  refine st1 ?_
  rcases e_bif hF with ⟨hb1, hF⟩ | ⟨hb1, hF⟩ <;> (first | rw [hb1] | (conv => arg 7; rw [hb1]))
  · refine st1 ?_
    have hq : some _ = some _ := hF
    cases hq
    exact en1
  · refine st1 ?_
    refine st_loopF (e_assoc hF) () [] ⟨sT, sS, by rfl, by rfl⟩ ?_
    · rintro n _ _ x hx1 hF
      (conv => arg 7; whnf); (conv => arg 8; whnf); (conv => arg 9; whnf)
      refine st1 ?_
      rcases e_bif hF with ⟨hb5, hF⟩ | ⟨hb5, hF⟩ <;> (first | rw [hb5] | (conv => arg 7; rw [hb5]))
      · refine st1 ?_
        rcases e_bif hF with ⟨hb6, hF⟩ | ⟨hb6, hF⟩ <;> (first | rw [hb6] | (conv => arg 7; rw [hb6]))
        · refine st1 ?_
          exact k_loopF (e_some hF) hx1 () [] ⟨sT, sS, by rfl, by rfl⟩
        · refine st1 ?_
          have hF := e_some hF
          have hq : some _ = some _ := hF
          cases hq
          exact en1
      · refine st1 ?_
        have hF := e_some hF
        have hq : some _ = some _ := hF
        cases hq
        exact en1


@[reducible] noncomputable def c_thalwegref02_Life : Con := conF F_thalwegref02_Life (fun x => match x with | (a0, a1) => [(V.sl (recs eTHullPlate (a0)) (a0).length), (V.v (.int .i64 (a1)))]) (fun r => V.tup [(V.agg (eTBounds r.1)), (V.v (.int .i64 (r.2)))])
theorem h_thalwegref02_Life : Has Try.prog 11 c_thalwegref02_Life := by
  refine hasF (ctx_cons h_thalwegref02_Years ctx_nil) mix Try.func11 rfl (by kernel_rfl) ?_
  rintro ⟨a0, a1⟩ r hF
  refine ⟨of_decide_eq_true rfl, ?_⟩
  refine st1 ?_
  refine st_loopF (e_assoc hF) () [(0, _), (3, _)] ⟨sT, sS, by rfl, by rfl⟩ ?_
  · rintro n ⟨_, _, _, _⟩ _ x hx1 hF
    (conv => arg 7; whnf); (conv => arg 8; whnf); (conv => arg 9; whnf)
    refine st1 ?_
    rcases e_bif hF with ⟨hb7, hF⟩ | ⟨hb7, hF⟩ <;> (first | rw [hb7] | (conv => arg 7; rw [hb7]))
    · refine st1 ?_
      obtain ⟨_, h, hF⟩ := e_bind hF
      (first | refine o_ia (enc := eTHullPlate) (s := 4) h (fun _ => rfl) (by decide) ?_ | refine o_iaT (enc := eTHullPlate) (s := 4) h (fun _ => rfl) (by decide) ?_)
      intro _
      refine st1 ?_
      obtain ⟨_, h, hF⟩ := e_bind hF
      (first | refine o_ia (enc := eTHullPlate) (s := 4) h (fun _ => rfl) (by decide) ?_ | refine o_iaT (enc := eTHullPlate) (s := 4) h (fun _ => rfl) (by decide) ?_)
      intro _
      refine st1 ?_
      obtain ⟨_, h, hF⟩ := e_bind hF
      (first | refine g_call h lv1 ?_ | refine g_callT h lv1 ?_)
      (conv => arg 1; whnf)
      refine st1 ?_
      rcases e_bif hF with ⟨hb8, hF⟩ | ⟨hb8, hF⟩ <;> (first | rw [hb8] | (conv => arg 7; rw [hb8]))
      · refine st1 ?_
        obtain ⟨_, h, hF⟩ := e_bind hF
        (first | refine o_ia (enc := eTHullPlate) (s := 4) h (fun _ => rfl) (by decide) ?_ | refine o_iaT (enc := eTHullPlate) (s := 4) h (fun _ => rfl) (by decide) ?_)
        intro _
        refine st1 ?_
        obtain ⟨_, h, hF⟩ := e_bind hF
        (first | refine o_ia (enc := eTHullPlate) (s := 4) h (fun _ => rfl) (by decide) ?_ | refine o_iaT (enc := eTHullPlate) (s := 4) h (fun _ => rfl) (by decide) ?_)
        intro _
        refine st1 ?_
        obtain ⟨_, h, hF⟩ := e_bind hF
        (first | refine g_call h lv1 ?_ | refine g_callT h lv1 ?_)
        (conv => arg 1; whnf)
        refine st1 ?_
        exact k_loopF (e_some hF) hx1 () [(0, _), (3, _)] ⟨sT, sS, by rfl, by rfl⟩
      · refine st1 ?_
        obtain ⟨_, h, hF⟩ := e_bind hF
        (first | refine o_ia (enc := eTHullPlate) (s := 4) h (fun _ => rfl) (by decide) ?_ | refine o_iaT (enc := eTHullPlate) (s := 4) h (fun _ => rfl) (by decide) ?_)
        intro _
        refine st1 ?_
        obtain ⟨_, h, hF⟩ := e_bind hF
        (first | refine o_ia (enc := eTHullPlate) (s := 4) h (fun _ => rfl) (by decide) ?_ | refine o_iaT (enc := eTHullPlate) (s := 4) h (fun _ => rfl) (by decide) ?_)
        intro _
        refine st1 ?_
        obtain ⟨_, h, hF⟩ := e_bind hF
        (first | refine g_call h lv1 ?_ | refine g_callT h lv1 ?_)
        (conv => arg 1; whnf)
        refine st1 ?_
        exact k_loopF (e_some hF) hx1 () [(0, _), (3, _)] ⟨sT, sS, by rfl, by rfl⟩
    · refine st1 ?_
      have hF := e_some hF
      have hq : some _ = some _ := hF
      cases hq
      exact en1


@[reducible] noncomputable def c_thalweglaw02_HullLives : Con := conF F_thalweglaw02_HullLives (fun x => match x with | (a0, a1) => [(V.sl (recs eTHullPlate (a0)) (a0).length), (V.v (.int .i64 (a1)))]) (fun r => (V.v (.bool (r))))
theorem fl_thalweglaw02_HullLives_25 : flatOf Try.prog 9 25 = some [true, true] := by kernel_rfl
theorem eg_thalweglaw02_HullLives_25 : Try.prog.eqGuardType Try.prog.depth 25 = false := by kernel_rfl
theorem ag_thalweglaw02_HullLives_25 : aggOf Try.prog 25 = some true := by kernel_rfl
theorem fl_thalweglaw02_HullLives_30 : flatOf Try.prog 9 30 = some [true, true, true, true] := by kernel_rfl
theorem eg_thalweglaw02_HullLives_30 : Try.prog.eqGuardType Try.prog.depth 30 = false := by kernel_rfl
theorem ag_thalweglaw02_HullLives_30 : aggOf Try.prog 30 = some true := by kernel_rfl
theorem h_thalweglaw02_HullLives : Has Try.prog 3 c_thalweglaw02_HullLives := by
  refine hasF (ctx_cons h_thalwegref02_Life (ctx_cons h_hull_Life (ctx_cons h_thalweglaw02_known ctx_nil))) mix Try.func3 rfl (by kernel_rfl) ?_
  rintro ⟨a0, a1⟩ r hF
  refine ⟨of_decide_eq_true rfl, ?_⟩
  refine st1 ?_
  rcases e_bif hF with ⟨hb1, hF⟩ | ⟨hb1, hF⟩ <;> (first | rw [hb1] | (conv => arg 7; rw [hb1]))
  · refine st1 ?_
    obtain ⟨_, h, hF⟩ := e_bind hF
    (first | refine g_call h lv1 ?_ | refine g_callT h lv1 ?_)
    (conv => arg 1; whnf)
    refine st1 ?_
    have hq : some _ = some _ := hF
    cases hq
    exact en1
  · refine st1 ?_
    obtain ⟨_, h, hF⟩ := e_bind hF
    (first | refine o_app (enc := eTHullPlate) (s := 4) h (fun _ => rfl) ?_ | refine o_appT (enc := eTHullPlate) (s := 4) h (fun _ => rfl) ?_)
    refine st1 ?_
    obtain ⟨_, h, hF⟩ := e_bind hF
    (first | refine g_call h lv1 ?_ | refine g_callT h lv1 ?_)
    (conv => arg 1; whnf)
    refine st1 ?_
    rcases e_bif hF with ⟨hb2, hF⟩ | ⟨hb2, hF⟩ <;> (first | rw [hb2] | (conv => arg 7; rw [hb2]))
    · refine st1 ?_
      rcases e_bif hF with ⟨hb3, hF⟩ | ⟨hb3, hF⟩ <;> (first | rw [hb3] | (conv => arg 7; rw [hb3]))
      · refine st1 ?_
        refine st_loopF (e_assoc hF) _ [(6, _), (15, _)] ⟨sT, sS, by rfl, by rfl⟩ ?_
        · rintro n _ _ x hx1 hF
          (conv => arg 7; whnf); (conv => arg 8; whnf); (conv => arg 9; whnf)
          refine st1 ?_
          rcases e_bif hF with ⟨hb8, hF⟩ | ⟨hb8, hF⟩ <;> (first | rw [hb8] | (conv => arg 7; rw [hb8]))
          · refine st1 ?_
            obtain ⟨_, hi10, hF⟩ := e_bind hF
            (first | refine go_req (oidx_ok hi10 (by decide)) ?_ | refine goT_req (oidx_ok hi10 (by decide)) ?_)
            (conv => arg 1; whnf)
            refine st1 ?_
            (first | refine o_ldA (enc := eTHullPlate) (s := 4) hi10 (fun _ => rfl) (by decide) ?_ | refine o_ldB (enc := eTHullPlate) (s := 4) hi10 (fun _ => rfl) (by decide) ?_ | refine o_ldC (enc := eTHullPlate) (s := 4) hi10 (fun _ => rfl) (by decide) ?_ | refine o_ldD (enc := eTHullPlate) (s := 4) hi10 (fun _ => rfl) (by decide) ?_ | refine o_ldAT (enc := eTHullPlate) (s := 4) hi10 (fun _ => rfl) (by decide) ?_ | refine o_ldBT (enc := eTHullPlate) (s := 4) hi10 (fun _ => rfl) (by decide) ?_ | refine o_ldCT (enc := eTHullPlate) (s := 4) hi10 (fun _ => rfl) (by decide) ?_ | refine o_ldDT (enc := eTHullPlate) (s := 4) hi10 (fun _ => rfl) (by decide) ?_)
            (conv => arg 1; whnf)
            refine st1 ?_
            obtain ⟨_, h, hF⟩ := e_bind hF
            (first | refine o_ia (enc := eTHullPlate) (s := 4) h (fun _ => rfl) (by decide) ?_ | refine o_iaT (enc := eTHullPlate) (s := 4) h (fun _ => rfl) (by decide) ?_)
            intro _
            refine st1 ?_
            rw [fl_thalweglaw02_HullLives_30, eg_thalweglaw02_HullLives_30, ag_thalweglaw02_HullLives_30]
            (conv => arg 1; whnf)
            refine st1 ?_
            rcases e_bif hF with ⟨hb9, hF⟩ | ⟨hb9, hF⟩ <;> (first | rw [hb9] | (conv => arg 7; rw [hb9]))
            · refine st1 ?_
              have hF := e_some hF
              have hq : some _ = some _ := hF
              cases hq
              exact en1
            · refine st1 ?_
              obtain ⟨_, h, hF⟩ := e_bind hF
              (first | refine o_ia (enc := eTHullPlate) (s := 4) h (fun _ => rfl) (by decide) ?_ | refine o_iaT (enc := eTHullPlate) (s := 4) h (fun _ => rfl) (by decide) ?_)
              intro _
              refine st1 ?_
              exact k_loopF (e_some hF) hx1 _ [(6, _), (15, _)] ⟨sT, sS, by rfl, by rfl⟩
          · refine st1 ?_
            have hF := e_some hF
            rcases e_bif hF with ⟨hb10, hF⟩ | ⟨hb10, hF⟩ <;> (first | rw [hb10] | (conv => arg 7; rw [hb10]))
            · refine st1 ?_
              rw [fl_thalweglaw02_HullLives_25, eg_thalweglaw02_HullLives_25, ag_thalweglaw02_HullLives_25]
              (conv => arg 1; whnf)
              refine st1 ?_
              rcases e_bif hF with ⟨hb11, hF⟩ | ⟨hb11, hF⟩ <;> (first | rw [hb11] | (conv => arg 7; rw [hb11]))
              · refine st1 ?_
                rcases e_bif hF with ⟨hb12, hF⟩ | ⟨hb12, hF⟩ <;> (first | rw [hb12] | (conv => arg 7; rw [hb12]))
                · refine st1 ?_
                  obtain ⟨_, h, hF⟩ := e_bind hF
                  (first | refine g_call h lv1 ?_ | refine g_callT h lv1 ?_)
                  (conv => arg 1; whnf)
                  refine st1 ?_
                  have hq : some _ = some _ := hF
                  cases hq
                  exact en1
                · refine st1 ?_
                  have hq : some _ = some _ := hF
                  cases hq
                  exact en1
              · refine st1 ?_
                have hq : some _ = some _ := hF
                cases hq
                exact en1
            · refine st1 ?_
              have hq : some _ = some _ := hF
              cases hq
              exact en1
      · refine st1 ?_
        refine st_loopF (e_assoc hF) _ [(6, _), (15, _)] ⟨sT, sS, by rfl, by rfl⟩ ?_
        · rintro n _ _ x hx1 hF
          (conv => arg 7; whnf); (conv => arg 8; whnf); (conv => arg 9; whnf)
          refine st1 ?_
          rcases e_bif hF with ⟨hb17, hF⟩ | ⟨hb17, hF⟩ <;> (first | rw [hb17] | (conv => arg 7; rw [hb17]))
          · refine st1 ?_
            obtain ⟨_, hi21, hF⟩ := e_bind hF
            (first | refine go_req (oidx_ok hi21 (by decide)) ?_ | refine goT_req (oidx_ok hi21 (by decide)) ?_)
            (conv => arg 1; whnf)
            refine st1 ?_
            (first | refine o_ldA (enc := eTHullPlate) (s := 4) hi21 (fun _ => rfl) (by decide) ?_ | refine o_ldB (enc := eTHullPlate) (s := 4) hi21 (fun _ => rfl) (by decide) ?_ | refine o_ldC (enc := eTHullPlate) (s := 4) hi21 (fun _ => rfl) (by decide) ?_ | refine o_ldD (enc := eTHullPlate) (s := 4) hi21 (fun _ => rfl) (by decide) ?_ | refine o_ldAT (enc := eTHullPlate) (s := 4) hi21 (fun _ => rfl) (by decide) ?_ | refine o_ldBT (enc := eTHullPlate) (s := 4) hi21 (fun _ => rfl) (by decide) ?_ | refine o_ldCT (enc := eTHullPlate) (s := 4) hi21 (fun _ => rfl) (by decide) ?_ | refine o_ldDT (enc := eTHullPlate) (s := 4) hi21 (fun _ => rfl) (by decide) ?_)
            (conv => arg 1; whnf)
            refine st1 ?_
            obtain ⟨_, h, hF⟩ := e_bind hF
            (first | refine o_ia (enc := eTHullPlate) (s := 4) h (fun _ => rfl) (by decide) ?_ | refine o_iaT (enc := eTHullPlate) (s := 4) h (fun _ => rfl) (by decide) ?_)
            intro _
            refine st1 ?_
            rw [fl_thalweglaw02_HullLives_30, eg_thalweglaw02_HullLives_30, ag_thalweglaw02_HullLives_30]
            (conv => arg 1; whnf)
            refine st1 ?_
            rcases e_bif hF with ⟨hb18, hF⟩ | ⟨hb18, hF⟩ <;> (first | rw [hb18] | (conv => arg 7; rw [hb18]))
            · refine st1 ?_
              have hF := e_some hF
              have hq : some _ = some _ := hF
              cases hq
              exact en1
            · refine st1 ?_
              obtain ⟨_, h, hF⟩ := e_bind hF
              (first | refine o_ia (enc := eTHullPlate) (s := 4) h (fun _ => rfl) (by decide) ?_ | refine o_iaT (enc := eTHullPlate) (s := 4) h (fun _ => rfl) (by decide) ?_)
              intro _
              refine st1 ?_
              exact k_loopF (e_some hF) hx1 _ [(6, _), (15, _)] ⟨sT, sS, by rfl, by rfl⟩
          · refine st1 ?_
            have hF := e_some hF
            rcases e_bif hF with ⟨hb19, hF⟩ | ⟨hb19, hF⟩ <;> (first | rw [hb19] | (conv => arg 7; rw [hb19]))
            · refine st1 ?_
              rw [fl_thalweglaw02_HullLives_25, eg_thalweglaw02_HullLives_25, ag_thalweglaw02_HullLives_25]
              (conv => arg 1; whnf)
              refine st1 ?_
              rcases e_bif hF with ⟨hb20, hF⟩ | ⟨hb20, hF⟩ <;> (first | rw [hb20] | (conv => arg 7; rw [hb20]))
              · refine st1 ?_
                rcases e_bif hF with ⟨hb21, hF⟩ | ⟨hb21, hF⟩ <;> (first | rw [hb21] | (conv => arg 7; rw [hb21]))
                · refine st1 ?_
                  obtain ⟨_, h, hF⟩ := e_bind hF
                  (first | refine g_call h lv1 ?_ | refine g_callT h lv1 ?_)
                  (conv => arg 1; whnf)
                  refine st1 ?_
                  have hq : some _ = some _ := hF
                  cases hq
                  exact en1
                · refine st1 ?_
                  have hq : some _ = some _ := hF
                  cases hq
                  exact en1
              · refine st1 ?_
                have hq : some _ = some _ := hF
                cases hq
                exact en1
            · refine st1 ?_
              have hq : some _ = some _ := hF
              cases hq
              exact en1
    · refine st1 ?_
      rcases e_bif hF with ⟨hb22, hF⟩ | ⟨hb22, hF⟩ <;> (first | rw [hb22] | (conv => arg 7; rw [hb22]))
      · refine st1 ?_
        refine st_loopF (e_assoc hF) _ [(6, _), (15, _)] ⟨sT, sS, by rfl, by rfl⟩ ?_
        · rintro n _ _ x hx1 hF
          (conv => arg 7; whnf); (conv => arg 8; whnf); (conv => arg 9; whnf)
          refine st1 ?_
          rcases e_bif hF with ⟨hb27, hF⟩ | ⟨hb27, hF⟩ <;> (first | rw [hb27] | (conv => arg 7; rw [hb27]))
          · refine st1 ?_
            obtain ⟨_, hi32, hF⟩ := e_bind hF
            (first | refine go_req (oidx_ok hi32 (by decide)) ?_ | refine goT_req (oidx_ok hi32 (by decide)) ?_)
            (conv => arg 1; whnf)
            refine st1 ?_
            (first | refine o_ldA (enc := eTHullPlate) (s := 4) hi32 (fun _ => rfl) (by decide) ?_ | refine o_ldB (enc := eTHullPlate) (s := 4) hi32 (fun _ => rfl) (by decide) ?_ | refine o_ldC (enc := eTHullPlate) (s := 4) hi32 (fun _ => rfl) (by decide) ?_ | refine o_ldD (enc := eTHullPlate) (s := 4) hi32 (fun _ => rfl) (by decide) ?_ | refine o_ldAT (enc := eTHullPlate) (s := 4) hi32 (fun _ => rfl) (by decide) ?_ | refine o_ldBT (enc := eTHullPlate) (s := 4) hi32 (fun _ => rfl) (by decide) ?_ | refine o_ldCT (enc := eTHullPlate) (s := 4) hi32 (fun _ => rfl) (by decide) ?_ | refine o_ldDT (enc := eTHullPlate) (s := 4) hi32 (fun _ => rfl) (by decide) ?_)
            (conv => arg 1; whnf)
            refine st1 ?_
            obtain ⟨_, h, hF⟩ := e_bind hF
            (first | refine o_ia (enc := eTHullPlate) (s := 4) h (fun _ => rfl) (by decide) ?_ | refine o_iaT (enc := eTHullPlate) (s := 4) h (fun _ => rfl) (by decide) ?_)
            intro _
            refine st1 ?_
            rw [fl_thalweglaw02_HullLives_30, eg_thalweglaw02_HullLives_30, ag_thalweglaw02_HullLives_30]
            (conv => arg 1; whnf)
            refine st1 ?_
            rcases e_bif hF with ⟨hb28, hF⟩ | ⟨hb28, hF⟩ <;> (first | rw [hb28] | (conv => arg 7; rw [hb28]))
            · refine st1 ?_
              have hF := e_some hF
              have hq : some _ = some _ := hF
              cases hq
              exact en1
            · refine st1 ?_
              obtain ⟨_, h, hF⟩ := e_bind hF
              (first | refine o_ia (enc := eTHullPlate) (s := 4) h (fun _ => rfl) (by decide) ?_ | refine o_iaT (enc := eTHullPlate) (s := 4) h (fun _ => rfl) (by decide) ?_)
              intro _
              refine st1 ?_
              exact k_loopF (e_some hF) hx1 _ [(6, _), (15, _)] ⟨sT, sS, by rfl, by rfl⟩
          · refine st1 ?_
            have hF := e_some hF
            rcases e_bif hF with ⟨hb29, hF⟩ | ⟨hb29, hF⟩ <;> (first | rw [hb29] | (conv => arg 7; rw [hb29]))
            · refine st1 ?_
              rw [fl_thalweglaw02_HullLives_25, eg_thalweglaw02_HullLives_25, ag_thalweglaw02_HullLives_25]
              (conv => arg 1; whnf)
              refine st1 ?_
              rcases e_bif hF with ⟨hb30, hF⟩ | ⟨hb30, hF⟩ <;> (first | rw [hb30] | (conv => arg 7; rw [hb30]))
              · refine st1 ?_
                rcases e_bif hF with ⟨hb31, hF⟩ | ⟨hb31, hF⟩ <;> (first | rw [hb31] | (conv => arg 7; rw [hb31]))
                · refine st1 ?_
                  obtain ⟨_, h, hF⟩ := e_bind hF
                  (first | refine g_call h lv1 ?_ | refine g_callT h lv1 ?_)
                  (conv => arg 1; whnf)
                  refine st1 ?_
                  have hq : some _ = some _ := hF
                  cases hq
                  exact en1
                · refine st1 ?_
                  have hq : some _ = some _ := hF
                  cases hq
                  exact en1
              · refine st1 ?_
                have hq : some _ = some _ := hF
                cases hq
                exact en1
            · refine st1 ?_
              have hq : some _ = some _ := hF
              cases hq
              exact en1
      · refine st1 ?_
        refine st_loopF (e_assoc hF) _ [(6, _), (15, _)] ⟨sT, sS, by rfl, by rfl⟩ ?_
        · rintro n ⟨_, _⟩ _ x hx1 hF
          (conv => arg 7; whnf); (conv => arg 8; whnf); (conv => arg 9; whnf)
          refine st1 ?_
          rcases e_bif hF with ⟨hb49, hF⟩ | ⟨hb49, hF⟩ <;> (first | rw [hb49] | (conv => arg 7; rw [hb49]))
          · refine st1 ?_
            obtain ⟨_, hi44, hF⟩ := e_bind hF
            (first | refine go_req (oidx_ok hi44 (by decide)) ?_ | refine goT_req (oidx_ok hi44 (by decide)) ?_)
            (conv => arg 1; whnf)
            refine st1 ?_
            (first | refine o_ldA (enc := eTHullPlate) (s := 4) hi44 (fun _ => rfl) (by decide) ?_ | refine o_ldB (enc := eTHullPlate) (s := 4) hi44 (fun _ => rfl) (by decide) ?_ | refine o_ldC (enc := eTHullPlate) (s := 4) hi44 (fun _ => rfl) (by decide) ?_ | refine o_ldD (enc := eTHullPlate) (s := 4) hi44 (fun _ => rfl) (by decide) ?_ | refine o_ldAT (enc := eTHullPlate) (s := 4) hi44 (fun _ => rfl) (by decide) ?_ | refine o_ldBT (enc := eTHullPlate) (s := 4) hi44 (fun _ => rfl) (by decide) ?_ | refine o_ldCT (enc := eTHullPlate) (s := 4) hi44 (fun _ => rfl) (by decide) ?_ | refine o_ldDT (enc := eTHullPlate) (s := 4) hi44 (fun _ => rfl) (by decide) ?_)
            (conv => arg 1; whnf)
            refine st1 ?_
            obtain ⟨_, h, hF⟩ := e_bind hF
            (first | refine o_ia (enc := eTHullPlate) (s := 4) h (fun _ => rfl) (by decide) ?_ | refine o_iaT (enc := eTHullPlate) (s := 4) h (fun _ => rfl) (by decide) ?_)
            intro _
            refine st1 ?_
            rw [fl_thalweglaw02_HullLives_30, eg_thalweglaw02_HullLives_30, ag_thalweglaw02_HullLives_30]
            (conv => arg 1; whnf)
            refine st1 ?_
            rcases e_bif hF with ⟨hb50, hF⟩ | ⟨hb50, hF⟩ <;> (first | rw [hb50] | (conv => arg 7; rw [hb50]))
            · refine st1 ?_
              have hF := e_some hF
              have hq : some _ = some _ := hF
              cases hq
              exact en1
            · refine st1 ?_
              obtain ⟨_, h, hF⟩ := e_bind hF
              (first | refine o_ia (enc := eTHullPlate) (s := 4) h (fun _ => rfl) (by decide) ?_ | refine o_iaT (enc := eTHullPlate) (s := 4) h (fun _ => rfl) (by decide) ?_)
              intro _
              refine st1 ?_
              rcases e_bif hF with ⟨hb51, hF⟩ | ⟨hb51, hF⟩ <;> (first | rw [hb51] | (conv => arg 7; rw [hb51]))
              · refine st1 ?_
                rcases e_bif hF with ⟨hb52, hF⟩ | ⟨hb52, hF⟩ <;> (first | rw [hb52] | (conv => arg 7; rw [hb52]))
                · refine st1 ?_
                  exact k_loopF (e_some hF) hx1 _ [(6, _), (15, _)] ⟨sT, sS, by rfl, by rfl⟩
                · refine st1 ?_
                  rcases e_bif hF with ⟨hb53, hF⟩ | ⟨hb53, hF⟩ <;> (first | rw [hb53] | (conv => arg 7; rw [hb53]))
                  · refine st1 ?_
                    exact k_loopF (e_some hF) hx1 _ [(6, _), (15, _)] ⟨sT, sS, by rfl, by rfl⟩
                  · refine st1 ?_
                    rcases e_bif hF with ⟨hb54, hF⟩ | ⟨hb54, hF⟩ <;> (first | rw [hb54] | (conv => arg 7; rw [hb54]))
                    · refine st1 ?_
                      exact k_loopF (e_some hF) hx1 _ [(6, _), (15, _)] ⟨sT, sS, by rfl, by rfl⟩
                    · refine st1 ?_
                      rcases e_bif hF with ⟨hb55, hF⟩ | ⟨hb55, hF⟩ <;> (first | rw [hb55] | (conv => arg 7; rw [hb55]))
                      · refine st1 ?_
                        exact k_loopF (e_some hF) hx1 _ [(6, _), (15, _)] ⟨sT, sS, by rfl, by rfl⟩
                      · refine st1 ?_
                        rcases e_bif hF with ⟨hb56, hF⟩ | ⟨hb56, hF⟩ <;> (first | rw [hb56] | (conv => arg 7; rw [hb56]))
                        · refine st1 ?_
                          exact k_loopF (e_some hF) hx1 _ [(6, _), (15, _)] ⟨sT, sS, by rfl, by rfl⟩
                        · refine st1 ?_
                          rcases e_bif hF with ⟨hb57, hF⟩ | ⟨hb57, hF⟩ <;> (first | rw [hb57] | (conv => arg 7; rw [hb57]))
                          · refine st1 ?_
                            exact k_loopF (e_some hF) hx1 _ [(6, _), (15, _)] ⟨sT, sS, by rfl, by rfl⟩
                          · refine st1 ?_
                            exact k_loopF (e_some hF) hx1 _ [(6, _), (15, _)] ⟨sT, sS, by rfl, by rfl⟩
              · refine st1 ?_
                exact k_loopF (e_some hF) hx1 _ [(6, _), (15, _)] ⟨sT, sS, by rfl, by rfl⟩
          · refine st1 ?_
            have hF := e_some hF
            rcases e_bif hF with ⟨hb58, hF⟩ | ⟨hb58, hF⟩ <;> (first | rw [hb58] | (conv => arg 7; rw [hb58]))
            · refine st1 ?_
              rcases e_bif hF with ⟨hb59, hF⟩ | ⟨hb59, hF⟩ <;> (first | rw [hb59] | (conv => arg 7; rw [hb59]))
              · refine st1 ?_
                rcases e_bif hF with ⟨hb60, hF⟩ | ⟨hb60, hF⟩ <;> (first | rw [hb60] | (conv => arg 7; rw [hb60]))
                · refine st1 ?_
                  rw [fl_thalweglaw02_HullLives_25, eg_thalweglaw02_HullLives_25, ag_thalweglaw02_HullLives_25]
                  (conv => arg 1; whnf)
                  refine st1 ?_
                  rcases e_bif hF with ⟨hb61, hF⟩ | ⟨hb61, hF⟩ <;> (first | rw [hb61] | (conv => arg 7; rw [hb61]))
                  · refine st1 ?_
                    rcases e_bif hF with ⟨hb62, hF⟩ | ⟨hb62, hF⟩ <;> (first | rw [hb62] | (conv => arg 7; rw [hb62]))
                    · refine st1 ?_
                      obtain ⟨_, h, hF⟩ := e_bind hF
                      (first | refine g_call h lv1 ?_ | refine g_callT h lv1 ?_)
                      (conv => arg 1; whnf)
                      refine st1 ?_
                      have hq : some _ = some _ := hF
                      cases hq
                      exact en1
                    · refine st1 ?_
                      have hq : some _ = some _ := hF
                      cases hq
                      exact en1
                  · refine st1 ?_
                    have hq : some _ = some _ := hF
                    cases hq
                    exact en1
                · refine st1 ?_
                  have hq : some _ = some _ := hF
                  cases hq
                  exact en1
              · refine st1 ?_
                rcases e_bif hF with ⟨hb63, hF⟩ | ⟨hb63, hF⟩ <;> (first | rw [hb63] | (conv => arg 7; rw [hb63]))
                · refine st1 ?_
                  rcases e_bif hF with ⟨hb64, hF⟩ | ⟨hb64, hF⟩ <;> (first | rw [hb64] | (conv => arg 7; rw [hb64]))
                  · refine st1 ?_
                    rw [fl_thalweglaw02_HullLives_25, eg_thalweglaw02_HullLives_25, ag_thalweglaw02_HullLives_25]
                    (conv => arg 1; whnf)
                    refine st1 ?_
                    rcases e_bif hF with ⟨hb65, hF⟩ | ⟨hb65, hF⟩ <;> (first | rw [hb65] | (conv => arg 7; rw [hb65]))
                    · refine st1 ?_
                      rcases e_bif hF with ⟨hb66, hF⟩ | ⟨hb66, hF⟩ <;> (first | rw [hb66] | (conv => arg 7; rw [hb66]))
                      · refine st1 ?_
                        obtain ⟨_, h, hF⟩ := e_bind hF
                        (first | refine g_call h lv1 ?_ | refine g_callT h lv1 ?_)
                        (conv => arg 1; whnf)
                        refine st1 ?_
                        have hq : some _ = some _ := hF
                        cases hq
                        exact en1
                      · refine st1 ?_
                        have hq : some _ = some _ := hF
                        cases hq
                        exact en1
                    · refine st1 ?_
                      have hq : some _ = some _ := hF
                      cases hq
                      exact en1
                  · refine st1 ?_
                    have hq : some _ = some _ := hF
                    cases hq
                    exact en1
                · refine st1 ?_
                  (first | rw [(eqT_ne hb58)] | (conv => arg 7; rw [(eqT_ne hb58)]))
                  refine st1 ?_
                  obtain ⟨_, h, hF⟩ := e_bind hF
                  (first | refine g_call h lv1 ?_ | refine g_callT h lv1 ?_)
                  (conv => arg 1; whnf)
                  refine st1 ?_
                  rcases e_bif hF with ⟨hb67, hF⟩ | ⟨hb67, hF⟩ <;> (first | rw [hb67] | (conv => arg 7; rw [hb67]))
                  · refine st1 ?_
                    rw [fl_thalweglaw02_HullLives_25, eg_thalweglaw02_HullLives_25, ag_thalweglaw02_HullLives_25]
                    (conv => arg 1; whnf)
                    refine st1 ?_
                    rcases e_bif hF with ⟨hb68, hF⟩ | ⟨hb68, hF⟩ <;> (first | rw [hb68] | (conv => arg 7; rw [hb68]))
                    · refine st1 ?_
                      rcases e_bif hF with ⟨hb69, hF⟩ | ⟨hb69, hF⟩ <;> (first | rw [hb69] | (conv => arg 7; rw [hb69]))
                      · refine st1 ?_
                        obtain ⟨_, h, hF⟩ := e_bind hF
                        (first | refine g_call h lv1 ?_ | refine g_callT h lv1 ?_)
                        (conv => arg 1; whnf)
                        refine st1 ?_
                        have hq : some _ = some _ := hF
                        cases hq
                        exact en1
                      · refine st1 ?_
                        have hq : some _ = some _ := hF
                        cases hq
                        exact en1
                    · refine st1 ?_
                      have hq : some _ = some _ := hF
                      cases hq
                      exact en1
                  · refine st1 ?_
                    have hq : some _ = some _ := hF
                    cases hq
                    exact en1
            · refine st1 ?_
              (first | rw [(eqF_ne hb58)] | (conv => arg 7; rw [(eqF_ne hb58)]))
              refine st1 ?_
              rcases e_bif hF with ⟨hb70, hF⟩ | ⟨hb70, hF⟩ <;> (first | rw [hb70] | (conv => arg 7; rw [hb70]))
              · refine st1 ?_
                rw [fl_thalweglaw02_HullLives_25, eg_thalweglaw02_HullLives_25, ag_thalweglaw02_HullLives_25]
                (conv => arg 1; whnf)
                refine st1 ?_
                rcases e_bif hF with ⟨hb71, hF⟩ | ⟨hb71, hF⟩ <;> (first | rw [hb71] | (conv => arg 7; rw [hb71]))
                · refine st1 ?_
                  rcases e_bif hF with ⟨hb72, hF⟩ | ⟨hb72, hF⟩ <;> (first | rw [hb72] | (conv => arg 7; rw [hb72]))
                  · refine st1 ?_
                    obtain ⟨_, h, hF⟩ := e_bind hF
                    (first | refine g_call h lv1 ?_ | refine g_callT h lv1 ?_)
                    (conv => arg 1; whnf)
                    refine st1 ?_
                    have hq : some _ = some _ := hF
                    cases hq
                    exact en1
                  · refine st1 ?_
                    have hq : some _ = some _ := hF
                    cases hq
                    exact en1
                · refine st1 ?_
                  have hq : some _ = some _ := hF
                  cases hq
                  exact en1
              · refine st1 ?_
                have hq : some _ = some _ := hF
                cases hq
                exact en1

end Go.Ev
/- Chapter 2: plates; the law HullLives is true. -/
set_option linter.unusedVariables false
set_option linter.unusedSimpArgs false
namespace Go.Ev
set_option maxHeartbeats 1000000

theorem every_int {l : List Int} {p : Int → Option Bool} {q : Int → Bool} {g : FuncId} {caps : List V} (hp : ∀ x ∈ l, p x = some (q x)) (hl : l.length ≤ 4611686018427387904) : F_numbers_Every_int (l, p, g, caps) = some (l.all q) := by
  unfold F_numbers_Every_int
  simp only
  rw [show (0 : Int) = ((0 : Nat) : Int) from rfl, loop_list l (fun k => (k : Int)) q (e := .inl ()) (f := .inr false)]
  · cases l.all q <;> rfl
  · intro k hk
    simp only [L_numbers_Every_int_1, Int.ofNat_lt, hk, decide_true, cond_true, idx?_nat hk, Option.bind_some, hp _ (List.getElem_mem hk), wr_nat (show k < 9223372036854775807 by omega)]
    cases q l[k] <;> rfl
  · simp [L_numbers_Every_int_1]
theorem every_HullPlate {l : List THullPlate} {p : THullPlate → Option Bool} {q : THullPlate → Bool} {g : FuncId} {caps : List V} (hp : ∀ x ∈ l, p x = some (q x)) (hl : l.length ≤ 4611686018427387904) : F_numbers_Every_HullPlate (l, p, g, caps) = some (l.all q) := by
  unfold F_numbers_Every_HullPlate
  simp only
  rw [show (0 : Int) = ((0 : Nat) : Int) from rfl, loop_list l (fun k => (k : Int)) q (e := .inl ()) (f := .inr false)]
  · cases l.all q <;> rfl
  · intro k hk
    simp only [L_numbers_Every_HullPlate_1, Int.ofNat_lt, hk, decide_true, cond_true, idx?_nat hk, Option.bind_some, hp _ (List.getElem_mem hk), wr_nat (show k < 9223372036854775807 by omega)]
    cases q l[k] <;> rfl
  · simp [L_numbers_Every_HullPlate_1]
theorem bif_and (a b : Bool) : (bif a then some b else some false) = some (a && b) := by cases a <;> rfl
theorem within1_eq (n a b : Int) : F_numbers_Within_1 (n, a, b) = some (inB n a b) := by
  simp only [F_numbers_Within_1, bif_and, inB]
theorem within_eq (a b : Int) (l : List Int) (hl : l.length ≤ 4611686018427387904) : F_numbers_Within (a, b, l) = some (l.all fun n => inB n a b) := by
  simp only [F_numbers_Within]
  rw [every_int (q := fun n => inB n a b) (fun x _ => within1_eq x a b) hl]
  rfl
theorem within1 (a b n : Int) : F_numbers_Within (a, b, [n]) = some (inB n a b) := by rw [within_eq _ _ _ (by simp)]; simp
theorem within2 (a b n m : Int) : F_numbers_Within (a, b, [n, m]) = some (inB n a b && inB m a b) := by rw [within_eq _ _ _ (by simp)]; simp
def vB (b : TBounds) (x y : Int) : Bool := decide (b.Low ≤ b.High) && (inB b.Low x y && inB b.High x y)
theorem valid_eq (b : TBounds) (x y : Int) : F_numbers_Valid (b, x, y) = some (vB b x y) := by
  simp only [F_numbers_Valid, within2, Option.bind_some, bif_and, vB]
theorem drop_cons {α : Type} {l m : List α} {k : Nat} {x : α} (h : l.drop k = x :: m) : ∃ hk : k < l.length, l[k] = x ∧ l.drop (k + 1) = m := by
  have hk : k < l.length := by
    have := congrArg List.length h
    simp at this
    omega
  rw [List.drop_eq_getElem_cons hk] at h
  cases h
  exact ⟨hk, rfl, rfl⟩
theorem drop_nil {α : Type} {l : List α} {k : Nat} (h : l.drop k = []) : l.length ≤ k := by simpa using h

/-- How many years a plate lasts. -/
def yr (t w least : Int) : Int := if t < least then -1 else if w = 0 then 1000 else min ((t - least).tdiv w) 1000
/-- Numbers that a plate can have. -/
def okN (t w least : Int) : Prop := 0 ≤ t ∧ t ≤ 100000 ∧ 0 ≤ w ∧ w ≤ 1000 ∧ 0 ≤ least ∧ least ≤ 100000
theorem lasts_eq {t w least : Int} (h : okN t w least) : F_hull_lasts (wr (t - least), w) = some (yr t w least) := by
  obtain ⟨h1, h2, h3, h4, h5, h6⟩ := h
  rw [wr_in (by omega) (by omega)]
  simp only [F_hull_lasts, yr]
  by_cases c1 : t < least
  · rw [if_pos c1, show decide (t - least < 0) = true by simp; omega]; rfl
  · rw [if_neg c1, show decide (t - least < 0) = false by simp; omega]
    simp only [cond_false]
    by_cases c2 : w = 0
    · simp [c2]
    · rw [if_neg c2, show (w == 0) = false by simpa using c2]
      simp only [cond_false]
      rw [nz_of c2]
      simp only [Option.bind_some]
      have hq0 : 0 ≤ (t - least).tdiv w := Int.tdiv_nonneg (by omega) h3
      have hq1 : (t - least).tdiv w ≤ t - least := Int.tdiv_le_self _ (by omega)
      rw [wr_in (by omega) (by omega)]
      simp only [minmax, Bool.false_eq_true, if_false, Option.some.injEq]
      split <;> omega
theorem yr_bound {t w least : Int} (h : okN t w least) : -1 ≤ yr t w least ∧ yr t w least ≤ 1000 := by
  obtain ⟨h1, h2, h3, h4, h5, h6⟩ := h
  unfold yr
  split
  · omega
  · split
    · omega
    · have hq0 : 0 ≤ (t - least).tdiv w := Int.tdiv_nonneg (by omega) h3
      omega
/-- A plate lasts for k years more just if k is at most its years. -/
theorem yr_le {t w least : Int} (h : okN t w least) {k : Nat} (hk : k ≤ 1000) : ((k : Int) ≤ yr t w least) ↔ (t - (k : Int) * w ≥ least) := by
  obtain ⟨h1, h2, h3, h4, h5, h6⟩ := h
  unfold yr
  by_cases c1 : t < least
  · rw [if_pos c1]
    have : 0 ≤ (k : Int) * w := Int.mul_nonneg (by omega) h3
    omega
  · rw [if_neg c1]
    by_cases c2 : w = 0
    · rw [if_pos c2, c2, Int.mul_zero]; omega
    · rw [if_neg c2]
      have hw : 0 < w := by omega
      have e : (t - least).tdiv w = (t - least) / w := Int.tdiv_eq_ediv_of_nonneg (by omega)
      rw [e]
      have := Int.le_ediv_iff_mul_le (a := (k : Int)) (b := t - least) hw
      omega
theorem mul_small {k : Nat} {w : Int} (hk : k ≤ 1000) (h3 : 0 ≤ w) (h4 : w ≤ 1000) : 0 ≤ (k : Int) * w ∧ (k : Int) * w ≤ 1000000 := by
  refine ⟨Int.mul_nonneg (by omega) h3, ?_⟩
  have h := Int.mul_le_mul (show (k : Int) ≤ 1000 by omega) h4 h3 (by omega : (0 : Int) ≤ 1000)
  omega
theorem years_eq {t w least : Int} (h : okN t w least) : F_thalwegref02_Years (t, w, least) = some (yr t w least) := by
  have hb := yr_bound h
  have hle := fun (k : Nat) (hk : k ≤ 1000) => yr_le h hk
  obtain ⟨h1, h2, h3, h4, h5, h6⟩ := h
  simp only [F_thalwegref02_Years]
  by_cases c1 : t < least
  · simp [c1, yr]
  · simp only [c1, decide_false, cond_false]
    have h0 : 0 ≤ yr t w least := (hle 0 (by omega)).2 (by simp; omega)
    obtain ⟨n, hn⟩ := Int.eq_ofNat_of_zero_le h0
    rw [hn] at hb hle ⊢
    rw [show (0 : Int) = ((0 : Nat) : Int) from rfl, loop_run (fun k : Nat => (k : Int)) n (e := (n : Int))]
    · rfl
    · intro k hk
      have hm := mul_small (k := k + 1) (by omega) h3 h4
      have := (hle (k + 1) (by omega)).1 (by omega)
      simp only [L_thalwegref02_Years_1]
      rw [wr_nat (by omega), wr_in (n := ((k + 1 : Nat) : Int) * w) (by omega) (by omega), wr_in (by omega) (by omega)]
      rw [show decide ((k : Int) < 1000) = true by simp; omega, show decide (t - ((k + 1 : Nat) : Int) * w ≥ least) = true from decide_eq_true this]
      rfl
    · simp only [L_thalwegref02_Years_1]
      by_cases c2 : n = 1000
      · subst c2; rfl
      · have hm := mul_small (k := n + 1) (by omega) h3 h4
        have hno : ¬ (t - ((n + 1 : Nat) : Int) * w ≥ least) := fun hc => by have := (hle (n + 1) (by omega)).2 hc; omega
        rw [wr_nat (by omega), wr_in (n := ((n + 1 : Nat) : Int) * w) (by omega) (by omega), wr_in (by omega) (by omega)]
        rw [show decide ((n : Int) < 1000) = true by simp; omega, show decide (t - ((n + 1 : Nat) : Int) * w ≥ least) = false from decide_eq_false hno]
        rfl

/-- The bounds of the years, the first plate with the least of them, from the kth plate on. -/
def lifeGo (least : Int) : List THullPlate → Nat → Int × Int × Int → Int × Int × Int
  | [], _, s => s
  | x :: m, k, (low, high, plate) => lifeGo least m (k + 1) (if yr x.Thick.Low x.Wear.High least < low then (yr x.Thick.Low x.Wear.High least, minmax false high (yr x.Thick.High x.Wear.Low least), (k : Int)) else (low, minmax false high (yr x.Thick.High x.Wear.Low least), plate))
def plateOk (x : THullPlate) : Bool := vB x.Thick 0 100000 && vB x.Wear 0 1000
theorem plate_nums {x : THullPlate} {least : Int} (h : plateOk x = true) (h5 : 0 ≤ least) (h6 : least ≤ 100000) : okN x.Thick.Low x.Wear.High least ∧ okN x.Thick.High x.Wear.Low least := by
  simp only [plateOk, vB, inB, Bool.and_eq_true, decide_eq_true_eq] at h
  exact ⟨⟨by omega, by omega, by omega, by omega, by omega, by omega⟩, ⟨by omega, by omega, by omega, by omega, by omega, by omega⟩⟩
theorem life_loop {l : List THullPlate} {least : Int} (h5 : 0 ≤ least) (h6 : least ≤ 100000) (hl : l.length ≤ 1000) : ∀ (m : List THullPlate) (k : Nat) (low high plate : Int), l.drop k = m → (∀ x ∈ m, plateOk x = true) → k ≤ l.length →
    loopC (L_hull_Life_1 least l).step ((k : Int), low, high, plate) = some ((lifeGo least m k (low, high, plate)).2.2, (lifeGo least m k (low, high, plate)).1, (lifeGo least m k (low, high, plate)).2.1)
  | [], k, low, high, plate, h, _, hk => by
    have := drop_nil h
    rw [loopC_eq]
    simp [L_hull_Life_1, lifeGo, show ¬ k < l.length by omega]
  | x :: m, k, low, high, plate, h, hx, hk => by
    obtain ⟨hl', hg, hd⟩ := drop_cons h
    obtain ⟨a1, a2⟩ := plate_nums (hx x (by simp)) h5 h6
    rw [loopC_eq]
    simp only [L_hull_Life_1, Int.ofNat_lt, hl', decide_true, cond_true, idx?_nat hl', hg, Option.bind_some, lasts_eq a1, lasts_eq a2, lifeGo]
    rw [wr_nat (by omega)]
    by_cases c : yr x.Thick.Low x.Wear.High least < low
    · rw [if_pos c]
      simp only [c, decide_true, cond_true]
      exact life_loop h5 h6 hl m (k + 1) _ _ _ hd (fun y hy => hx y (by simp [hy])) (by omega)
    · rw [if_neg c]
      simp only [c, decide_false, cond_false]
      exact life_loop h5 h6 hl m (k + 1) _ _ _ hd (fun y hy => hx y (by simp [hy])) (by omega)
theorem rlife_loop {l : List THullPlate} {least : Int} (h5 : 0 ≤ least) (h6 : least ≤ 100000) (hl : l.length ≤ 1000) : ∀ (m : List THullPlate) (k : Nat) (low high plate : Int), l.drop k = m → (∀ x ∈ m, plateOk x = true) → k ≤ l.length →
    loopC (L_thalwegref02_Life_1 l least).step ((k : Int), low, high, plate) = some ((lifeGo least m k (low, high, plate)).2.2, (lifeGo least m k (low, high, plate)).1, (lifeGo least m k (low, high, plate)).2.1)
  | [], k, low, high, plate, h, _, hk => by
    have := drop_nil h
    rw [loopC_eq]
    simp [L_thalwegref02_Life_1, lifeGo, show ¬ k < l.length by omega]
  | x :: m, k, low, high, plate, h, hx, hk => by
    obtain ⟨hl', hg, hd⟩ := drop_cons h
    obtain ⟨a1, a2⟩ := plate_nums (hx x (by simp)) h5 h6
    rw [loopC_eq]
    simp only [L_thalwegref02_Life_1, Int.ofNat_lt, hl', decide_true, cond_true, idx?_nat hl', hg, Option.bind_some, years_eq a1, years_eq a2, lifeGo]
    rw [wr_nat (by omega)]
    by_cases c : yr x.Thick.Low x.Wear.High least < low
    · rw [if_pos c]
      simp only [c, decide_true, cond_true]
      exact rlife_loop h5 h6 hl m (k + 1) _ _ _ hd (fun y hy => hx y (by simp [hy])) (by omega)
    · rw [if_neg c]
      simp only [c, decide_false, cond_false]
      exact rlife_loop h5 h6 hl m (k + 1) _ _ _ hd (fun y hy => hx y (by simp [hy])) (by omega)

/-- The error of plates. -/
def lifeErr (l : List THullPlate) (least : Int) : Int := if l.length = 0 then 4 else if l.length > 50 then 5 else if !(l.all plateOk) then 2 else if !(inB least 0 100000) then 3 else 0
def lifeOf (l : List THullPlate) (least : Int) : Int × Int × Int := lifeGo least l 0 (1000, 1000, 0)
theorem Life_eq (l : List THullPlate) (least : Int) : F_hull_Life (l, least) = some (if lifeErr l least = 0 then (⟨(lifeOf l least).1, (lifeOf l least).2.1⟩, (lifeOf l least).2.2, 0) else (⟨0, 0⟩, 0, lifeErr l least)) := by
  simp only [F_hull_Life, lifeErr]
  by_cases c1 : l.length = 0
  · simp [c1]
  · simp only [show (((l.length : Nat) : Int) == 0) = false by rw [beq_eq_false_iff_ne]; omega, cond_false, c1, if_false]
    by_cases c2 : l.length > 50
    · simp [c2, show ((l.length : Int) > 50) by omega]
    · simp only [show decide ((l.length : Int) > 50) = false by simp; omega, cond_false, c2, if_false]
      rw [every_HullPlate (q := plateOk) (fun x _ => by
        simp only [F_hull_Life_1, valid_eq, Option.bind_some, plateOk]
        cases vB x.Thick 0 100000 <;> rfl) (by omega)]
      simp only [Option.bind_some]
      cases c3 : l.all plateOk with
      | false => rfl
      | true =>
        simp only [Bool.not_true, cond_false, within1, Option.bind_some, Bool.false_eq_true, if_false]
        cases c4 : inB least 0 100000 with
        | false => rfl
        | true =>
          rw [inB_iff] at c4
          simp only [Bool.not_true, cond_false, Bool.false_eq_true, if_false, if_true]
          rw [show ((0 : Int), (1000 : Int), (1000 : Int), (0 : Int)) = (((0 : Nat) : Int), 1000, 1000, 0) from rfl, life_loop c4.1 c4.2 (by omega) l 0 1000 1000 0 rfl (fun x hx => List.all_eq_true.1 c3 x hx) (by omega)]
          rfl
theorem rLife_eq {l : List THullPlate} {least : Int} (h : lifeErr l least = 0) : F_thalwegref02_Life (l, least) = some (⟨(lifeOf l least).1, (lifeOf l least).2.1⟩, (lifeOf l least).2.2) := by
  unfold lifeErr at h
  split at h
  · cases h
  · next c1 =>
    split at h
    · cases h
    · next c2 =>
      split at h
      · cases h
      · next c3 =>
        split at h
        · cases h
        · next c4 =>
          simp only [Bool.not_eq_true', Bool.not_eq_false] at c3 c4
          rw [inB_iff] at c4
          simp only [F_thalwegref02_Life]
          rw [show ((0 : Int), (1000000 : Int), (1000000 : Int), (0 : Int)) = (((0 : Nat) : Int), 1000000, 1000000, 0) from rfl, rlife_loop c4.1 c4.2 (by omega) l 0 1000000 1000000 0 rfl (fun x hx => List.all_eq_true.1 c3 x hx) (by omega)]
          have hfirst : lifeGo least l 0 (1000000, 1000000, 0) = lifeOf l least := by
            unfold lifeOf
            cases l with
            | nil => simp at c1
            | cons x m =>
              obtain ⟨a1, a2⟩ := plate_nums (List.all_eq_true.1 c3 x (by simp)) c4.1 c4.2
              have b1 := yr_bound a1
              have b2 := yr_bound a2
              simp only [lifeGo]
              have e1 : minmax false 1000000 (yr x.Thick.High x.Wear.Low least) = yr x.Thick.High x.Wear.Low least := by simp [minmax]; omega
              have e2 : minmax false 1000 (yr x.Thick.High x.Wear.Low least) = yr x.Thick.High x.Wear.Low least := by simp only [minmax, Bool.false_eq_true, if_false]; split <;> omega
              rw [e1, e2, if_pos (by omega)]
              by_cases c : yr x.Thick.Low x.Wear.High least < 1000
              · rw [if_pos c]
              · rw [if_neg c, show yr x.Thick.Low x.Wear.High least = 1000 by omega]; rfl
          rw [hfirst]
          rfl

theorem plate_self (x : THullPlate) : (x.Thick.Low == x.Thick.Low && (x.Thick.High == x.Thick.High && (x.Wear.Low == x.Wear.Low && (x.Wear.High == x.Wear.High && true)))) = true := by simp
theorem lives_loop1 {l : List THullPlate} (hl : l.length ≤ 1000) (least : Int) (y : TBounds × Int × Int) : loopC (L_thalweglaw02_HullLives_1 l least y l).step 0 = some (.inl ()) := by
  rw [show (0 : Int) = ((0 : Nat) : Int) from rfl, loop_run (fun k : Nat => (k : Int)) l.length (e := .inl ())]
  · intro k hk
    simp only [L_thalweglaw02_HullLives_1, Int.ofNat_lt, hk, decide_true, cond_true, idx?_nat hk, Option.bind_some, plate_self, Bool.not_true, cond_false]
    rw [wr_nat (by omega)]
  · simp [L_thalweglaw02_HullLives_1]
theorem lives_loop2 {l : List THullPlate} (hl : l.length ≤ 1000) (least : Int) (y : TBounds × Int × Int) : loopC (L_thalweglaw02_HullLives_2 l least y l).step 0 = some (.inl ()) := by
  rw [show (0 : Int) = ((0 : Nat) : Int) from rfl, loop_run (fun k : Nat => (k : Int)) l.length (e := .inl ())]
  · intro k hk
    simp only [L_thalweglaw02_HullLives_2, Int.ofNat_lt, hk, decide_true, cond_true, idx?_nat hk, Option.bind_some, plate_self, Bool.not_true, cond_false]
    rw [wr_nat (by omega)]
  · simp [L_thalweglaw02_HullLives_2]
theorem plate_bif (b : THullPlate) {x y : Option ((Int × Int) ⊕ Int ⊕ Bool)} : (bif decide (b.Thick.Low < 0) then x else bif decide (b.Thick.Low > b.Thick.High) then x else bif decide (b.Thick.High > 100000) then x else
    bif decide (b.Wear.Low < 0) then x else bif decide (b.Wear.Low > b.Wear.High) then x else bif decide (b.Wear.High > 1000) then x else y) = if plateOk b then y else x := by
  have key : plateOk b = (!decide (b.Thick.Low < 0) && (!decide (b.Thick.Low > b.Thick.High) && (!decide (b.Thick.High > 100000) && (!decide (b.Wear.Low < 0) && (!decide (b.Wear.Low > b.Wear.High) && !decide (b.Wear.High > 1000)))))) := by
    rw [Bool.eq_iff_iff]
    simp only [plateOk, vB, inB, Bool.and_eq_true, decide_eq_true_eq, Bool.not_eq_true', decide_eq_false_iff_not]
    omega
  rw [key]
  cases decide (b.Thick.Low < 0) <;> cases decide (b.Thick.Low > b.Thick.High) <;> cases decide (b.Thick.High > 100000) <;> cases decide (b.Wear.Low < 0) <;> cases decide (b.Wear.Low > b.Wear.High) <;> cases decide (b.Wear.High > 1000) <;> rfl
theorem lives_loop3 {l : List THullPlate} (hl : l.length ≤ 1000) (least : Int) (y : TBounds × Int × Int) : loopC (L_thalweglaw02_HullLives_3 l least y l).step (0, 0) = some (.inl (if l.all plateOk then 0 else 2)) := by
  rw [show ((0 : Int), (0 : Int)) = (fun k : Nat => ((if (l.take k).all plateOk then (0 : Int) else 2), (k : Int))) 0 by simp, loop_run (fun k : Nat => ((if (l.take k).all plateOk then (0 : Int) else 2), (k : Int))) l.length (e := .inl (if l.all plateOk then 0 else 2))]
  · intro k hk
    simp only [L_thalweglaw02_HullLives_3, Int.ofNat_lt, hk, decide_true, cond_true, idx?_nat hk, Option.bind_some, plate_self, Bool.not_true, cond_false]
    rw [wr_nat (by omega), plate_bif, List.take_succ_eq_append_getElem hk, List.all_append]
    simp only [List.all_cons, List.all_nil, Bool.and_true]
    cases (l.take k).all plateOk <;> cases plateOk l[k] <;> rfl
  · simp [L_thalweglaw02_HullLives_3]
theorem knownH_eq : F_thalweglaw02_known () = some true := rfl

theorem lives_true {l : List THullPlate} {least : Int} : F_thalweglaw02_HullLives (l, least) = some true := by
  simp only [F_thalweglaw02_HullLives, knownH_eq, Option.bind_some]
  by_cases c0 : l.length > 60
  · rw [show decide ((l.length : Int) > 60) = true by simp; omega]; rfl
  · rw [show decide ((l.length : Int) > 60) = false by simp; omega]
    simp only [cond_false]
    rw [app_nil (m := l) (n := 32) (by omega) (by decide)]
    simp only [Option.bind_some, Life_eq]
    rw [lives_loop1 (by omega), lives_loop2 (by omega), lives_loop3 (by omega)]
    by_cases c1 : l.length = 0
    · have he : lifeErr l least = 4 := by simp [lifeErr, c1]
      simp [c1, he]
    · rw [show (((l.length : Nat) : Int) == 0) = false by rw [beq_eq_false_iff_ne]; omega]
      simp only [cond_false]
      by_cases c2 : l.length > 50
      · have he : lifeErr l least = 5 := by simp only [lifeErr, c1, if_false, c2, if_true]
        rw [show decide ((l.length : Int) > 50) = true by simp; omega]
        simp [he]
      · rw [show decide ((l.length : Int) > 50) = false by simp; omega]
        simp only [cond_false, Option.bind_some]
        cases c3 : l.all plateOk with
        | false =>
          have he : lifeErr l least = 2 := by simp only [lifeErr, c1, if_false, c2, c3, Bool.not_false, if_true]
          simp [he]
        | true =>
          simp only [if_true, show ((0 : Int) == 0) = true from rfl, cond_true]
          by_cases c4 : least < 0
          · have he : lifeErr l least = 3 := by
              have : inB least 0 100000 = false := by rw [Bool.eq_false_iff]; intro h; rw [inB_iff] at h; omega
              simp only [lifeErr, c1, if_false, c2, c3, this, Bool.not_true, Bool.not_false, if_true, Bool.false_eq_true]
            simp [c4, he]
          · simp only [c4, decide_false, cond_false]
            by_cases c5 : least > 100000
            · have he : lifeErr l least = 3 := by
                have : inB least 0 100000 = false := by rw [Bool.eq_false_iff]; intro h; rw [inB_iff] at h; omega
                simp only [lifeErr, c1, if_false, c2, c3, this, Bool.not_true, Bool.not_false, if_true, Bool.false_eq_true]
              simp [c5, he]
            · have he : lifeErr l least = 0 := by
                have : inB least 0 100000 = true := by rw [inB_iff]; omega
                simp only [lifeErr, c1, if_false, c2, c3, this, Bool.not_true, Bool.false_eq_true]
              simp only [c5, decide_false, cond_false, rLife_eq he, Option.bind_some, he, if_true]
              simp
end Go.Ev
/- The law HullLives, by what is known of its arguments. -/
set_option linter.unusedVariables false
namespace Go.Ev
theorem lives_law {l : List THullPlate} {a : Int} (h1 : kLTHullPlate l) (h2 : kIi64 a) : F_thalweglaw02_HullLives (l, a) = some true := lives_true
end Go.Ev
