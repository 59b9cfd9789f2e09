/- A part of the proof of TopDeepEnough. -/
import Derived.Test.YtignohgoodffbafW3
/- The functions do what is said. -/
set_option linter.unusedVariables false
set_option linter.unusedSimpArgs false
namespace Go.Ev
open Go.Proofs
set_option maxHeartbeats 8000000
set_option maxRecDepth 100000
@[reducible] noncomputable def c_thalwegtop_haulRiver : Con := conF F_thalwegtop_haulRiver (fun x => match x with | (a0) => [(V.agg (eTRiver a0))]) (fun r => (V.agg (eTRiver r)))
theorem h_thalwegtop_haulRiver : Has Try.prog 10 c_thalwegtop_haulRiver := by
  refine hasF ctx_nil mix Try.func10 rfl (by kernel_rfl) ?_
  rintro a0 r hF
  refine ⟨of_decide_eq_true rfl, ?_⟩
  refine st1 ?_
  obtain ⟨_, h, hF⟩ := e_bind hF
  (first | refine o_app (enc := eTShoal) (s := 6) h (fun _ => rfl) ?_ | refine o_appT (enc := eTShoal) (s := 6) h (fun _ => rfl) ?_)
  refine st1 ?_
  (first | refine st_loopF (e_assoc hF) () [(0, _), (1, _), (7, _)] ⟨sT, sS, by rfl, by rfl⟩ ?_ | ((conv => arg 7; try simp only [List.size_toArray, List.length_cons, List.length_nil, Nat.reduceAdd, Nat.zero_add]); (conv => arg 8; try simp only [List.size_toArray, List.length_cons, List.length_nil, Nat.reduceAdd, Nat.zero_add]); (conv => arg 9; try simp only [List.size_toArray, List.length_cons, List.length_nil, Nat.reduceAdd, Nat.zero_add]); refine st_loopF (e_assoc hF) () [(0, 0), (1, 1), (7, 7)] ⟨sT, sS, by rfl, by rfl⟩ ?_))
  · as_aux_lemma =>
    rintro n ⟨_, _⟩ _ x hx1 hF
    (conv => arg 7; whnf); (conv => arg 8; whnf); (conv => arg 9; whnf)
    refine st1 ?_
    rcases e_bif hF with ⟨hb4, hF⟩ | ⟨hb4, hF⟩ <;> (first | rw [hb4] | (conv => arg 7; rw [hb4]) | (conv => arg 9; rw [hb4]))
    · refine st1 ?_
      obtain ⟨_, h, hF⟩ := e_bind hF
      (first | refine o_ia (enc := eTReach) (s := 9) h (fun _ => rfl) (by decide) ?_ | refine o_iaT (enc := eTReach) (s := 9) h (fun _ => rfl) (by decide) ?_)
      intro _
      refine st1 ?_
      obtain ⟨_, h, hF⟩ := e_bind hF
      (first | refine o_app (enc := eTRateRow) (s := 2) h (fun _ => rfl) ?_ | refine o_appT (enc := eTRateRow) (s := 2) h (fun _ => rfl) ?_)
      refine st1 ?_
      obtain ⟨_, h, hF⟩ := e_bind hF
      (first | refine o_app (enc := eTReach) (s := 9) h (fun _ => rfl) ?_ | refine o_appT (enc := eTReach) (s := 9) h (fun _ => rfl) ?_)
      refine st1 ?_
      (first | exact k_loopF (e_some hF) hx1 () [(0, _), (1, _), (7, _), (8, _)] ⟨sT, sS, by rfl, by rfl⟩ | exact k_loopF (e_some hF) hx1 () [(0, 0), (1, 1), (7, 7), (8, 8)] ⟨sT, sS, by rfl, by rfl⟩)
    · refine st1 ?_
      (first | have hF := e_next (e_some hF) | have hF := e_some hF)
      have hq : some _ = some _ := hF
      cases hq
      exact en1


@[reducible] noncomputable def c_thalwegtop_haulSides : Con := conF F_thalwegtop_haulSides (fun x => match x with | (a0) => [(V.sl (recs (eS eTBounds) (a0)) (a0).length)]) (fun r => (V.sl (recs (eS eTBounds) (r)) (r).length))
theorem h_thalwegtop_haulSides : Has Try.prog 11 c_thalwegtop_haulSides := by
  refine hasF ctx_nil mix Try.func11 rfl (by kernel_rfl) ?_
  rintro a0 r hF
  refine ⟨of_decide_eq_true rfl, ?_⟩
  refine st1 ?_
  (first | refine st_loopF (e_assoc hF) () [(1, _)] ⟨sT, sS, by rfl, by rfl⟩ ?_ | ((conv => arg 7; try simp only [List.size_toArray, List.length_cons, List.length_nil, Nat.reduceAdd, Nat.zero_add]); (conv => arg 8; try simp only [List.size_toArray, List.length_cons, List.length_nil, Nat.reduceAdd, Nat.zero_add]); (conv => arg 9; try simp only [List.size_toArray, List.length_cons, List.length_nil, Nat.reduceAdd, Nat.zero_add]); refine st_loopF (e_assoc hF) () [(1, 1)] ⟨sT, sS, by rfl, by rfl⟩ ?_))
  · as_aux_lemma =>
    rintro n ⟨_, _⟩ _ x hx1 hF
    (conv => arg 7; whnf); (conv => arg 8; whnf); (conv => arg 9; whnf)
    refine st1 ?_
    rcases e_bif hF with ⟨hb3, hF⟩ | ⟨hb3, hF⟩ <;> (first | rw [hb3] | (conv => arg 7; rw [hb3]) | (conv => arg 9; rw [hb3]))
    · refine st1 ?_
      obtain ⟨_, h, hF⟩ := e_bind hF
      (first | refine o_ia (enc := (eS eTBounds)) (s := 1) h (fun _ => rfl) (by decide) ?_ | refine o_iaT (enc := (eS eTBounds)) (s := 1) h (fun _ => rfl) (by decide) ?_)
      intro _
      refine st1 ?_
      obtain ⟨_, h, hF⟩ := e_bind hF
      (first | refine o_app (enc := eTBounds) (s := 2) h (fun _ => rfl) ?_ | refine o_appT (enc := eTBounds) (s := 2) h (fun _ => rfl) ?_)
      refine st1 ?_
      obtain ⟨_, h, hF⟩ := e_bind hF
      (first | refine o_app (enc := (eS eTBounds)) (s := 1) h (fun _ => rfl) ?_ | refine o_appT (enc := (eS eTBounds)) (s := 1) h (fun _ => rfl) ?_)
      refine st1 ?_
      (first | exact k_loopF (e_some hF) hx1 () [(1, _)] ⟨sT, sS, by rfl, by rfl⟩ | exact k_loopF (e_some hF) hx1 () [(1, 1)] ⟨sT, sS, by rfl, by rfl⟩)
    · refine st1 ?_
      (first | have hF := e_next (e_some hF) | have hF := e_some hF)
      have hq : some _ = some _ := hF
      cases hq
      exact en1


@[reducible] noncomputable def c_numbers_Sum : Con := conF F_numbers_Sum (fun x => match x with | (a0) => [(V.sl (recs eTBounds (a0)) (a0).length)]) (fun r => (V.agg (eTBounds r)))
theorem h_numbers_Sum : Has Try.prog 36 c_numbers_Sum := by
  refine hasF ctx_nil mix Try.func36 rfl (by kernel_rfl) ?_
  rintro a0 r hF
  refine ⟨of_decide_eq_true rfl, ?_⟩
  refine st1 ?_
  (first | refine st_loopF (e_assoc hF) () [(0, _), (2, _)] ⟨sT, sS, by rfl, by rfl⟩ ?_ | ((conv => arg 7; try simp only [List.size_toArray, List.length_cons, List.length_nil, Nat.reduceAdd, Nat.zero_add]); (conv => arg 8; try simp only [List.size_toArray, List.length_cons, List.length_nil, Nat.reduceAdd, Nat.zero_add]); (conv => arg 9; try simp only [List.size_toArray, List.length_cons, List.length_nil, Nat.reduceAdd, Nat.zero_add]); refine st_loopF (e_assoc hF) () [(0, 0), (2, 2)] ⟨sT, sS, by rfl, by rfl⟩ ?_))
  · as_aux_lemma =>
    rintro n ⟨_, _, _⟩ _ x hx1 hF
    (conv => arg 7; whnf); (conv => arg 8; whnf); (conv => arg 9; whnf)
    refine st1 ?_
    rcases e_bif hF with ⟨hb3, hF⟩ | ⟨hb3, hF⟩ <;> (first | rw [hb3] | (conv => arg 7; rw [hb3]) | (conv => arg 9; rw [hb3]))
    · refine st1 ?_
      obtain ⟨_, h, hF⟩ := e_bind hF
      (first | refine o_ia (enc := eTBounds) (s := 2) h (fun _ => rfl) (by decide) ?_ | refine o_iaT (enc := eTBounds) (s := 2) h (fun _ => rfl) (by decide) ?_)
      intro _
      refine st1 ?_
      (first | exact k_loopF (e_some hF) hx1 () [(0, _), (2, _)] ⟨sT, sS, by rfl, by rfl⟩ | exact k_loopF (e_some hF) hx1 () [(0, 0), (2, 2)] ⟨sT, sS, by rfl, by rfl⟩)
    · refine st1 ?_
      (first | have hF := e_next (e_some hF) | have hF := e_some hF)
      have hq : some _ = some _ := hF
      cases hq
      exact en1


@[reducible] noncomputable def c_numbers_Every_int (C : FuncId → Option Con) : Con := conK F_numbers_Every_int (fun x => match x with | (a0, a1, g, caps) => [(V.sl (recs (eI .i64) (a0)) (a0).length), (V.fn g caps)]) (fun x => match x with | (a0, a1, g, caps) => Callable (ext C []) g caps (fun x => match x with | (q0) => [(V.v (.int .i64 (q0)))]) (fun r => (V.v (.bool (r)))) a1) (fun r => (V.v (.bool (r))))
theorem h_numbers_Every_int {C : FuncId → Option Con} (hC : CtxOK Try.prog C) : Has Try.prog 29 (c_numbers_Every_int C) := by
  refine hasK (ext_nil hC) mix Try.func29 rfl (by kernel_rfl) ?_
  rintro ⟨a0, a1, g, caps⟩ r hcl hF
  obtain ⟨hcaps, c, hc, hce, hcf, hcall⟩ := id hcl
  refine ⟨of_decide_eq_true rfl, ?_⟩
  refine st1 ?_
  (first | refine st_loopF (e_assoc hF) () [] ⟨sT, sS, by rfl, by rfl⟩ ?_ | ((conv => arg 7; try simp only [List.size_toArray, List.length_cons, List.length_nil, Nat.reduceAdd, Nat.zero_add]); (conv => arg 8; try simp only [List.size_toArray, List.length_cons, List.length_nil, Nat.reduceAdd, Nat.zero_add]); (conv => arg 9; try simp only [List.size_toArray, List.length_cons, List.length_nil, Nat.reduceAdd, Nat.zero_add]); refine st_loopF (e_assoc hF) () [] ⟨sT, sS, by rfl, by rfl⟩ ?_))
  · as_aux_lemma =>
    rintro n _ _ x hx1 hF
    (conv => arg 7; whnf); (conv => arg 8; whnf); (conv => arg 9; whnf)
    refine st1 ?_
    rcases e_bif hF with ⟨hb5, hF⟩ | ⟨hb5, hF⟩ <;> (first | rw [hb5] | (conv => arg 7; rw [hb5]) | (conv => arg 9; rw [hb5]))
    · refine st1 ?_
      obtain ⟨_, h, hF⟩ := e_bind hF
      (first | refine o_ia (enc := (eI .i64)) (s := 1) h (fun _ => rfl) (by decide) ?_ | refine o_iaT (enc := (eI .i64)) (s := 1) h (fun _ => rfl) (by decide) ?_)
      intro _
      refine st1 ?_
      obtain ⟨_, h, hF⟩ := e_bind hF
      rw [hc]
      (conv => arg 1; whnf)
      rw [hce, hcf]
      (conv => arg 1; whnf)
      (first | refine go_map hcaps rfl ?_ | refine goT_map hcaps rfl ?_)
      (conv => arg 1; whnf)
      obtain ⟨z, hz1, hz2, hz3⟩ := hcall _ _ h
      (first | refine go_exi z ⟨levs_eq hz1.symm, hz2⟩ ?_ | refine goT_exi z ⟨levs_eq hz1.symm, hz2⟩ ?_)
      rw [hz3]
      (conv => arg 1; whnf)
      refine st1 ?_
      rcases e_bif hF with ⟨hb6, hF⟩ | ⟨hb6, hF⟩ <;> (first | rw [hb6] | (conv => arg 7; rw [hb6]) | (conv => arg 9; rw [hb6]))
      · refine st1 ?_
        (first | have hF := e_next (e_some hF) | have hF := e_some hF)
        have hq : some _ = some _ := hF
        cases hq
        exact en1
      · refine st1 ?_
        (first | exact k_loopF (e_some hF) hx1 () [] ⟨sT, sS, by rfl, by rfl⟩ | exact k_loopF (e_some hF) hx1 () [] ⟨sT, sS, by rfl, by rfl⟩)
    · refine st1 ?_
      (first | have hF := e_next (e_some hF) | have hF := e_some hF)
      have hq : some _ = some _ := hF
      cases hq
      exact en1


@[reducible] noncomputable def c_numbers_Within_1 : Con := conF F_numbers_Within_1 (fun x => match x with | (a0, c0, c1) => [(V.v (.int .i64 (a0))), (V.fptr [(V.v (.int .i64 (c0)))]), (V.fptr [(V.v (.int .i64 (c1)))])]) (fun r => (V.v (.bool (r))))
theorem h_numbers_Within_1 : Has Try.prog 30 c_numbers_Within_1 := by
  refine hasF ctx_nil mix Try.func30 rfl (by kernel_rfl) ?_
  rintro ⟨a0, c0, c1⟩ r hF
  refine ⟨of_decide_eq_true rfl, ?_⟩
  refine st1 ?_
  rcases e_bif hF with ⟨hb1, hF⟩ | ⟨hb1, hF⟩ <;> (first | rw [hb1] | (conv => arg 7; rw [hb1]) | (conv => arg 9; rw [hb1]))
  · refine st1 ?_
    have hq : some _ = some _ := hF
    cases hq
    exact en1
  · refine st1 ?_
    have hq : some _ = some _ := hF
    cases hq
    exact en1


@[reducible] noncomputable def c_numbers_Within : Con := conF F_numbers_Within (fun x => match x with | (a0, a1, a2) => [(V.v (.int .i64 (a0))), (V.v (.int .i64 (a1))), (V.sl (recs (eI .i64) (a2)) (a2).length)]) (fun r => (V.v (.bool (r))))
theorem h_numbers_Within : Has Try.prog 17 c_numbers_Within := by
  refine hasF (ctx_cons (h_numbers_Every_int (ctx_cons h_numbers_Within_1 ctx_nil)) ctx_nil) mix Try.func17 rfl (by kernel_rfl) ?_
  rintro ⟨a0, a1, a2⟩ r hF
  refine ⟨of_decide_eq_true rfl, ?_⟩
  refine st1 ?_
  obtain ⟨_, h, hF⟩ := e_bind hF
  (first | refine g_hcall h lv1 (callable_conF rfl rfl (fun _ => rfl)) ?_ | refine g_hcallT h lv1 (callable_conF rfl rfl (fun _ => rfl)) ?_)
  (conv => arg 1; whnf)
  refine st1 ?_
  have hq : some _ = some _ := hF
  cases hq
  exact en1


@[reducible] noncomputable def c_numbers_Valid : Con := conF F_numbers_Valid (fun x => match x with | (a0, a1, a2) => [(V.agg (eTBounds a0)), (V.v (.int .i64 (a1))), (V.v (.int .i64 (a2)))]) (fun r => (V.v (.bool (r))))
theorem h_numbers_Valid : Has Try.prog 16 c_numbers_Valid := by
  refine hasF (ctx_cons h_numbers_Within ctx_nil) mix Try.func16 rfl (by kernel_rfl) ?_
  rintro ⟨a0, a1, a2⟩ r hF
  refine ⟨of_decide_eq_true rfl, ?_⟩
  refine st1 ?_
  rcases e_bif hF with ⟨hb1, hF⟩ | ⟨hb1, hF⟩ <;> (first | rw [hb1] | (conv => arg 7; rw [hb1]) | (conv => arg 9; rw [hb1]))
  · refine st1 ?_
    obtain ⟨_, h, hF⟩ := e_bind hF
    (first | refine g_call h lv1 ?_ | refine g_callT h lv1 ?_)
    (conv => arg 1; whnf)
    refine st1 ?_
    have hq : some _ = some _ := hF
    cases hq
    exact en1
  · refine st1 ?_
    have hq : some _ = some _ := hF
    cases hq
    exact en1


@[reducible] noncomputable def c_river_validCurve_1 : Con := conF F_river_validCurve_1 (fun x => match x with | (a0, a1) => [(V.agg (eTRateRow a0)), (V.agg (eTRateRow a1))]) (fun r => (V.v (.bool (r))))
theorem h_river_validCurve_1 : Has Try.prog 59 c_river_validCurve_1 := by
  refine hasF ctx_nil mix Try.func59 rfl (by kernel_rfl) ?_
  rintro ⟨a0, a1⟩ r hF
  refine ⟨of_decide_eq_true rfl, ?_⟩
  refine st1 ?_
  rcases e_bif hF with ⟨hb1, hF⟩ | ⟨hb1, hF⟩ <;> (first | rw [hb1] | (conv => arg 7; rw [hb1]) | (conv => arg 9; rw [hb1]))
  · refine st1 ?_
    have hq : some _ = some _ := hF
    cases hq
    exact en1
  · refine st1 ?_
    have hq : some _ = some _ := hF
    cases hq
    exact en1


@[reducible] noncomputable def c_numbers_Every_RateRow (C : FuncId → Option Con) : Con := conK F_numbers_Every_RateRow (fun x => match x with | (a0, a1, g, caps) => [(V.sl (recs eTRateRow (a0)) (a0).length), (V.fn g caps)]) (fun x => match x with | (a0, a1, g, caps) => Callable (ext C []) g caps (fun x => match x with | (q0) => [(V.agg (eTRateRow q0))]) (fun r => (V.v (.bool (r)))) a1) (fun r => (V.v (.bool (r))))
theorem h_numbers_Every_RateRow {C : FuncId → Option Con} (hC : CtxOK Try.prog C) : Has Try.prog 60 (c_numbers_Every_RateRow C) := by
  refine hasK (ext_nil hC) mix Try.func60 rfl (by kernel_rfl) ?_
  rintro ⟨a0, a1, g, caps⟩ r hcl hF
  obtain ⟨hcaps, c, hc, hce, hcf, hcall⟩ := id hcl
  refine ⟨of_decide_eq_true rfl, ?_⟩
  refine st1 ?_
  (first | refine st_loopF (e_assoc hF) () [] ⟨sT, sS, by rfl, by rfl⟩ ?_ | ((conv => arg 7; try simp only [List.size_toArray, List.length_cons, List.length_nil, Nat.reduceAdd, Nat.zero_add]); (conv => arg 8; try simp only [List.size_toArray, List.length_cons, List.length_nil, Nat.reduceAdd, Nat.zero_add]); (conv => arg 9; try simp only [List.size_toArray, List.length_cons, List.length_nil, Nat.reduceAdd, Nat.zero_add]); refine st_loopF (e_assoc hF) () [] ⟨sT, sS, by rfl, by rfl⟩ ?_))
  · as_aux_lemma =>
    rintro n _ _ x hx1 hF
    (conv => arg 7; whnf); (conv => arg 8; whnf); (conv => arg 9; whnf)
    refine st1 ?_
    rcases e_bif hF with ⟨hb5, hF⟩ | ⟨hb5, hF⟩ <;> (first | rw [hb5] | (conv => arg 7; rw [hb5]) | (conv => arg 9; rw [hb5]))
    · refine st1 ?_
      obtain ⟨_, h, hF⟩ := e_bind hF
      (first | refine o_ia (enc := eTRateRow) (s := 2) h (fun _ => rfl) (by decide) ?_ | refine o_iaT (enc := eTRateRow) (s := 2) h (fun _ => rfl) (by decide) ?_)
      intro _
      refine st1 ?_
      obtain ⟨_, h, hF⟩ := e_bind hF
      rw [hc]
      (conv => arg 1; whnf)
      rw [hce, hcf]
      (conv => arg 1; whnf)
      (first | refine go_map hcaps rfl ?_ | refine goT_map hcaps rfl ?_)
      (conv => arg 1; whnf)
      obtain ⟨z, hz1, hz2, hz3⟩ := hcall _ _ h
      (first | refine go_exi z ⟨levs_eq hz1.symm, hz2⟩ ?_ | refine goT_exi z ⟨levs_eq hz1.symm, hz2⟩ ?_)
      rw [hz3]
      (conv => arg 1; whnf)
      refine st1 ?_
      rcases e_bif hF with ⟨hb6, hF⟩ | ⟨hb6, hF⟩ <;> (first | rw [hb6] | (conv => arg 7; rw [hb6]) | (conv => arg 9; rw [hb6]))
      · refine st1 ?_
        (first | have hF := e_next (e_some hF) | have hF := e_some hF)
        have hq : some _ = some _ := hF
        cases hq
        exact en1
      · refine st1 ?_
        (first | exact k_loopF (e_some hF) hx1 () [] ⟨sT, sS, by rfl, by rfl⟩ | exact k_loopF (e_some hF) hx1 () [] ⟨sT, sS, by rfl, by rfl⟩)
    · refine st1 ?_
      (first | have hF := e_next (e_some hF) | have hF := e_some hF)
      have hq : some _ = some _ := hF
      cases hq
      exact en1


@[reducible] noncomputable def c_river_validCurve_2 : Con := conF F_river_validCurve_2 (fun x => match x with | (a0) => [(V.agg (eTRateRow a0))]) (fun r => (V.v (.bool (r))))
theorem h_river_validCurve_2 : Has Try.prog 61 c_river_validCurve_2 := by
  refine hasF (ctx_cons h_numbers_Within ctx_nil) mix Try.func61 rfl (by kernel_rfl) ?_
  rintro a0 r hF
  refine ⟨of_decide_eq_true rfl, ?_⟩
  refine st1 ?_
  obtain ⟨_, h, hF⟩ := e_bind hF
  (first | refine g_call h lv1 ?_ | refine g_callT h lv1 ?_)
  (conv => arg 1; whnf)
  refine st1 ?_
  rcases e_bif hF with ⟨hb1, hF⟩ | ⟨hb1, hF⟩ <;> (first | rw [hb1] | (conv => arg 7; rw [hb1]) | (conv => arg 9; rw [hb1]))
  · refine st1 ?_
    obtain ⟨_, h, hF⟩ := e_bind hF
    (first | refine g_call h lv1 ?_ | refine g_callT h lv1 ?_)
    (conv => arg 1; whnf)
    refine st1 ?_
    have hq : some _ = some _ := hF
    cases hq
    exact en1
  · refine st1 ?_
    have hq : some _ = some _ := hF
    cases hq
    exact en1


@[reducible] noncomputable def c_river_validCurve : Con := conF F_river_validCurve (fun x => match x with | (a0) => [(V.sl (recs eTRateRow (a0)) (a0).length)]) (fun r => (V.v (.bool (r))))
theorem h_river_validCurve : Has Try.prog 45 c_river_validCurve := by
  refine hasF (ctx_cons (h_numbers_Every_RateRow (ctx_cons h_river_validCurve_2 ctx_nil)) (ctx_cons h_river_validCurve_1 (ctx_cons h_numbers_Within ctx_nil))) mix Try.func45 rfl (by kernel_rfl) ?_
  rintro a0 r hF
  refine ⟨of_decide_eq_true rfl, ?_⟩
  refine st1 ?_
  obtain ⟨_, h, hF⟩ := e_bind hF
  (first | refine g_call h lv1 ?_ | refine g_callT h lv1 ?_)
  (conv => arg 1; whnf)
  refine st1 ?_
  rcases e_bif hF with ⟨hb1, hF⟩ | ⟨hb1, hF⟩ <;> (first | rw [hb1] | (conv => arg 7; rw [hb1]) | (conv => arg 9; rw [hb1]))
  · refine st1 ?_
    have hq : some _ = some _ := hF
    cases hq
    exact en1
  · refine st1 ?_
    (first | refine st_loopF (e_assoc hF) () [] ⟨sT, sS, by rfl, by rfl⟩ ?_ | ((conv => arg 7; try simp only [List.size_toArray, List.length_cons, List.length_nil, Nat.reduceAdd, Nat.zero_add]); (conv => arg 8; try simp only [List.size_toArray, List.length_cons, List.length_nil, Nat.reduceAdd, Nat.zero_add]); (conv => arg 9; try simp only [List.size_toArray, List.length_cons, List.length_nil, Nat.reduceAdd, Nat.zero_add]); refine st_loopF (e_assoc hF) () [] ⟨sT, sS, by rfl, by rfl⟩ ?_))
    · as_aux_lemma =>
      rintro n _ _ x hx1 hF
      (conv => arg 7; whnf); (conv => arg 8; whnf); (conv => arg 9; whnf)
      refine st1 ?_
      rcases e_bif hF with ⟨hb6, hF⟩ | ⟨hb6, hF⟩ <;> (first | rw [hb6] | (conv => arg 7; rw [hb6]) | (conv => arg 9; rw [hb6]))
      · refine st1 ?_
        obtain ⟨_, h, hF⟩ := e_bind hF
        (first | refine o_ia (enc := eTRateRow) (s := 2) h (fun _ => rfl) (by decide) ?_ | refine o_iaT (enc := eTRateRow) (s := 2) h (fun _ => rfl) (by decide) ?_)
        intro _
        refine st1 ?_
        obtain ⟨_, h, hF⟩ := e_bind hF
        (first | refine o_ia (enc := eTRateRow) (s := 2) h (fun _ => rfl) (by decide) ?_ | refine o_iaT (enc := eTRateRow) (s := 2) h (fun _ => rfl) (by decide) ?_)
        intro _
        refine st1 ?_
        obtain ⟨_, h, hF⟩ := e_bind hF
        (first | refine g_call h lv1 ?_ | refine g_callT h lv1 ?_)
        (conv => arg 1; whnf)
        refine st1 ?_
        rcases e_bif hF with ⟨hb7, hF⟩ | ⟨hb7, hF⟩ <;> (first | rw [hb7] | (conv => arg 7; rw [hb7]) | (conv => arg 9; rw [hb7]))
        · refine st1 ?_
          (first | have hF := e_next (e_some hF) | have hF := e_some hF)
          have hq : some _ = some _ := hF
          cases hq
          exact en1
        · refine st1 ?_
          (first | exact k_loopF (e_some hF) hx1 () [] ⟨sT, sS, by rfl, by rfl⟩ | exact k_loopF (e_some hF) hx1 () [] ⟨sT, sS, by rfl, by rfl⟩)
      · refine st1 ?_
        (first | have hF := e_next (e_some hF) | have hF := e_some hF)
        obtain ⟨_, h, hF⟩ := e_bind hF
        (first | refine g_hcall h lv1 (callable_conF rfl rfl (fun _ => rfl)) ?_ | refine g_hcallT h lv1 (callable_conF rfl rfl (fun _ => rfl)) ?_)
        (conv => arg 1; whnf)
        refine st1 ?_
        have hq : some _ = some _ := hF
        cases hq
        exact en1


@[reducible] noncomputable def c_river_validReach : Con := conF F_river_validReach (fun x => match x with | (a0) => [(V.agg (eTReach a0))]) (fun r => (V.v (.bool (r))))
theorem h_river_validReach : Has Try.prog 32 c_river_validReach := by
  refine hasF (ctx_cons h_river_validCurve (ctx_cons h_numbers_Within (ctx_cons h_numbers_Valid ctx_nil))) mix Try.func32 rfl (by kernel_rfl) ?_
  rintro a0 r hF
  refine ⟨of_decide_eq_true rfl, ?_⟩
  refine st1 ?_
  obtain ⟨_, h, hF⟩ := e_bind hF
  (first | refine g_call h lv1 ?_ | refine g_callT h lv1 ?_)
  (conv => arg 1; whnf)
  refine st1 ?_
  rcases e_bif hF with ⟨hb1, hF⟩ | ⟨hb1, hF⟩ <;> (first | rw [hb1] | (conv => arg 7; rw [hb1]) | (conv => arg 9; rw [hb1]))
  · refine st1 ?_
    obtain ⟨_, h, hF⟩ := e_bind hF
    (first | refine g_call h lv1 ?_ | refine g_callT h lv1 ?_)
    (conv => arg 1; whnf)
    refine st1 ?_
    rcases e_bif hF with ⟨hb2, hF⟩ | ⟨hb2, hF⟩ <;> (first | rw [hb2] | (conv => arg 7; rw [hb2]) | (conv => arg 9; rw [hb2]))
    · refine st1 ?_
      obtain ⟨_, h, hF⟩ := e_bind hF
      (first | refine g_call h lv1 ?_ | refine g_callT h lv1 ?_)
      (conv => arg 1; whnf)
      refine st1 ?_
      rcases e_bif hF with ⟨hb3, hF⟩ | ⟨hb3, hF⟩ <;> (first | rw [hb3] | (conv => arg 7; rw [hb3]) | (conv => arg 9; rw [hb3]))
      · refine st1 ?_
        obtain ⟨_, h, hF⟩ := e_bind hF
        (first | refine g_call h lv1 ?_ | refine g_callT h lv1 ?_)
        (conv => arg 1; whnf)
        refine st1 ?_
        rcases e_bif hF with ⟨hb4, hF⟩ | ⟨hb4, hF⟩ <;> (first | rw [hb4] | (conv => arg 7; rw [hb4]) | (conv => arg 9; rw [hb4]))
        · refine st1 ?_
          obtain ⟨_, h, hF⟩ := e_bind hF
          (first | refine g_call h lv1 ?_ | refine g_callT h lv1 ?_)
          (conv => arg 1; whnf)
          refine st1 ?_
          rcases e_bif hF with ⟨hb5, hF⟩ | ⟨hb5, hF⟩ <;> (first | rw [hb5] | (conv => arg 7; rw [hb5]) | (conv => arg 9; rw [hb5]))
          · refine st1 ?_
            obtain ⟨_, h, hF⟩ := e_bind hF
            (first | refine g_call h lv1 ?_ | refine g_callT h lv1 ?_)
            (conv => arg 1; whnf)
            refine st1 ?_
            have hq : some _ = some _ := hF
            cases hq
            exact en1
          · refine st1 ?_
            have hq : some _ = some _ := hF
            cases hq
            exact en1
        · refine st1 ?_
          have hq : some _ = some _ := hF
          cases hq
          exact en1
      · refine st1 ?_
        have hq : some _ = some _ := hF
        cases hq
        exact en1
    · refine st1 ?_
      have hq : some _ = some _ := hF
      cases hq
      exact en1
  · refine st1 ?_
    have hq : some _ = some _ := hF
    cases hq
    exact en1


@[reducible] noncomputable def c_numbers_Every_Reach (C : FuncId → Option Con) : Con := conK F_numbers_Every_Reach (fun x => match x with | (a0, a1, g, caps) => [(V.sl (recs eTReach (a0)) (a0).length), (V.fn g caps)]) (fun x => match x with | (a0, a1, g, caps) => Callable (ext C []) g caps (fun x => match x with | (q0) => [(V.agg (eTReach q0))]) (fun r => (V.v (.bool (r)))) a1) (fun r => (V.v (.bool (r))))
theorem h_numbers_Every_Reach {C : FuncId → Option Con} (hC : CtxOK Try.prog C) : Has Try.prog 49 (c_numbers_Every_Reach C) := by
  refine hasK (ext_nil hC) mix Try.func49 rfl (by kernel_rfl) ?_
  rintro ⟨a0, a1, g, caps⟩ r hcl hF
  obtain ⟨hcaps, c, hc, hce, hcf, hcall⟩ := id hcl
  refine ⟨of_decide_eq_true rfl, ?_⟩
  refine st1 ?_
  (first | refine st_loopF (e_assoc hF) () [] ⟨sT, sS, by rfl, by rfl⟩ ?_ | ((conv => arg 7; try simp only [List.size_toArray, List.length_cons, List.length_nil, Nat.reduceAdd, Nat.zero_add]); (conv => arg 8; try simp only [List.size_toArray, List.length_cons, List.length_nil, Nat.reduceAdd, Nat.zero_add]); (conv => arg 9; try simp only [List.size_toArray, List.length_cons, List.length_nil, Nat.reduceAdd, Nat.zero_add]); refine st_loopF (e_assoc hF) () [] ⟨sT, sS, by rfl, by rfl⟩ ?_))
  · as_aux_lemma =>
    rintro n _ _ x hx1 hF
    (conv => arg 7; whnf); (conv => arg 8; whnf); (conv => arg 9; whnf)
    refine st1 ?_
    rcases e_bif hF with ⟨hb5, hF⟩ | ⟨hb5, hF⟩ <;> (first | rw [hb5] | (conv => arg 7; rw [hb5]) | (conv => arg 9; rw [hb5]))
    · refine st1 ?_
      obtain ⟨_, h, hF⟩ := e_bind hF
      (first | refine o_ia (enc := eTReach) (s := 9) h (fun _ => rfl) (by decide) ?_ | refine o_iaT (enc := eTReach) (s := 9) h (fun _ => rfl) (by decide) ?_)
      intro _
      refine st1 ?_
      obtain ⟨_, h, hF⟩ := e_bind hF
      rw [hc]
      (conv => arg 1; whnf)
      rw [hce, hcf]
      (conv => arg 1; whnf)
      (first | refine go_map hcaps rfl ?_ | refine goT_map hcaps rfl ?_)
      (conv => arg 1; whnf)
      obtain ⟨z, hz1, hz2, hz3⟩ := hcall _ _ h
      (first | refine go_exi z ⟨levs_eq hz1.symm, hz2⟩ ?_ | refine goT_exi z ⟨levs_eq hz1.symm, hz2⟩ ?_)
      rw [hz3]
      (conv => arg 1; whnf)
      refine st1 ?_
      rcases e_bif hF with ⟨hb6, hF⟩ | ⟨hb6, hF⟩ <;> (first | rw [hb6] | (conv => arg 7; rw [hb6]) | (conv => arg 9; rw [hb6]))
      · refine st1 ?_
        (first | have hF := e_next (e_some hF) | have hF := e_some hF)
        have hq : some _ = some _ := hF
        cases hq
        exact en1
      · refine st1 ?_
        (first | exact k_loopF (e_some hF) hx1 () [] ⟨sT, sS, by rfl, by rfl⟩ | exact k_loopF (e_some hF) hx1 () [] ⟨sT, sS, by rfl, by rfl⟩)
    · refine st1 ?_
      (first | have hF := e_next (e_some hF) | have hF := e_some hF)
      have hq : some _ = some _ := hF
      cases hq
      exact en1


@[reducible] noncomputable def c_numbers_Every_Shoal (C : FuncId → Option Con) : Con := conK F_numbers_Every_Shoal (fun x => match x with | (a0, a1, g, caps) => [(V.sl (recs eTShoal (a0)) (a0).length), (V.fn g caps)]) (fun x => match x with | (a0, a1, g, caps) => Callable (ext C []) g caps (fun x => match x with | (q0) => [(V.agg (eTShoal q0))]) (fun r => (V.v (.bool (r)))) a1) (fun r => (V.v (.bool (r))))
theorem h_numbers_Every_Shoal {C : FuncId → Option Con} (hC : CtxOK Try.prog C) : Has Try.prog 50 (c_numbers_Every_Shoal C) := by
  refine hasK (ext_nil hC) mix Try.func50 rfl (by kernel_rfl) ?_
  rintro ⟨a0, a1, g, caps⟩ r hcl hF
  obtain ⟨hcaps, c, hc, hce, hcf, hcall⟩ := id hcl
  refine ⟨of_decide_eq_true rfl, ?_⟩
  refine st1 ?_
  (first | refine st_loopF (e_assoc hF) () [] ⟨sT, sS, by rfl, by rfl⟩ ?_ | ((conv => arg 7; try simp only [List.size_toArray, List.length_cons, List.length_nil, Nat.reduceAdd, Nat.zero_add]); (conv => arg 8; try simp only [List.size_toArray, List.length_cons, List.length_nil, Nat.reduceAdd, Nat.zero_add]); (conv => arg 9; try simp only [List.size_toArray, List.length_cons, List.length_nil, Nat.reduceAdd, Nat.zero_add]); refine st_loopF (e_assoc hF) () [] ⟨sT, sS, by rfl, by rfl⟩ ?_))
  · as_aux_lemma =>
    rintro n _ _ x hx1 hF
    (conv => arg 7; whnf); (conv => arg 8; whnf); (conv => arg 9; whnf)
    refine st1 ?_
    rcases e_bif hF with ⟨hb5, hF⟩ | ⟨hb5, hF⟩ <;> (first | rw [hb5] | (conv => arg 7; rw [hb5]) | (conv => arg 9; rw [hb5]))
    · refine st1 ?_
      obtain ⟨_, h, hF⟩ := e_bind hF
      (first | refine o_ia (enc := eTShoal) (s := 6) h (fun _ => rfl) (by decide) ?_ | refine o_iaT (enc := eTShoal) (s := 6) h (fun _ => rfl) (by decide) ?_)
      intro _
      refine st1 ?_
      obtain ⟨_, h, hF⟩ := e_bind hF
      rw [hc]
      (conv => arg 1; whnf)
      rw [hce, hcf]
      (conv => arg 1; whnf)
      (first | refine go_map hcaps rfl ?_ | refine goT_map hcaps rfl ?_)
      (conv => arg 1; whnf)
      obtain ⟨z, hz1, hz2, hz3⟩ := hcall _ _ h
      (first | refine go_exi z ⟨levs_eq hz1.symm, hz2⟩ ?_ | refine goT_exi z ⟨levs_eq hz1.symm, hz2⟩ ?_)
      rw [hz3]
      (conv => arg 1; whnf)
      refine st1 ?_
      rcases e_bif hF with ⟨hb6, hF⟩ | ⟨hb6, hF⟩ <;> (first | rw [hb6] | (conv => arg 7; rw [hb6]) | (conv => arg 9; rw [hb6]))
      · refine st1 ?_
        (first | have hF := e_next (e_some hF) | have hF := e_some hF)
        have hq : some _ = some _ := hF
        cases hq
        exact en1
      · refine st1 ?_
        (first | exact k_loopF (e_some hF) hx1 () [] ⟨sT, sS, by rfl, by rfl⟩ | exact k_loopF (e_some hF) hx1 () [] ⟨sT, sS, by rfl, by rfl⟩)
    · refine st1 ?_
      (first | have hF := e_next (e_some hF) | have hF := e_some hF)
      have hq : some _ = some _ := hF
      cases hq
      exact en1


@[reducible] noncomputable def c_river_find : Con := conF F_river_find (fun x => match x with | (a0, a1) => [(V.agg (eTRiver a0)), (V.v (.int .i64 (a1)))]) (fun r => V.tup [(V.agg (eTriver_site r.1)), (V.v (.bool (r.2)))])
theorem h_river_find : Has Try.prog 41 c_river_find := by
  refine hasF ctx_nil mix Try.func41 rfl (by kernel_rfl) ?_
  rintro ⟨a0, a1⟩ r hF
  refine ⟨of_decide_eq_true rfl, ?_⟩
  refine st1 ?_
  (first | refine st_loopF (e_assoc hF) () [(0, _), (1, _)] ⟨sT, sS, by rfl, by rfl⟩ ?_ | ((conv => arg 7; try simp only [List.size_toArray, List.length_cons, List.length_nil, Nat.reduceAdd, Nat.zero_add]); (conv => arg 8; try simp only [List.size_toArray, List.length_cons, List.length_nil, Nat.reduceAdd, Nat.zero_add]); (conv => arg 9; try simp only [List.size_toArray, List.length_cons, List.length_nil, Nat.reduceAdd, Nat.zero_add]); refine st_loopF (e_assoc hF) () [(0, 0), (1, 1)] ⟨sT, sS, by rfl, by rfl⟩ ?_))
  · as_aux_lemma =>
    rintro n ⟨_, _⟩ _ x hx1 hF
    (conv => arg 7; whnf); (conv => arg 8; whnf); (conv => arg 9; whnf)
    refine st1 ?_
    rcases e_bif hF with ⟨hb7, hF⟩ | ⟨hb7, hF⟩ <;> (first | rw [hb7] | (conv => arg 7; rw [hb7]) | (conv => arg 9; rw [hb7]))
    · refine st1 ?_
      obtain ⟨_, h, hF⟩ := e_bind hF
      (first | refine o_ia (enc := eTReach) (s := 9) h (fun _ => rfl) (by decide) ?_ | refine o_iaT (enc := eTReach) (s := 9) h (fun _ => rfl) (by decide) ?_)
      intro _
      refine st1 ?_
      rcases e_bif hF with ⟨hb8, hF⟩ | ⟨hb8, hF⟩ <;> (first | rw [hb8] | (conv => arg 7; rw [hb8]) | (conv => arg 9; rw [hb8]))
      · refine st1 ?_
        rcases e_bif hF with ⟨hb9, hF⟩ | ⟨hb9, hF⟩ <;> (first | rw [hb9] | (conv => arg 7; rw [hb9]) | (conv => arg 9; rw [hb9]))
        · refine st1 ?_
          (first | have hF := e_next (e_some hF) | have hF := e_some hF)
          have hq : some _ = some _ := hF
          cases hq
          exact en1
        · refine st1 ?_
          (first | exact k_loopF (e_some hF) hx1 () [(0, _), (1, _)] ⟨sT, sS, by rfl, by rfl⟩ | exact k_loopF (e_some hF) hx1 () [(0, 0), (1, 1)] ⟨sT, sS, by rfl, by rfl⟩)
      · refine st1 ?_
        (first | exact k_loopF (e_some hF) hx1 () [(0, _), (1, _)] ⟨sT, sS, by rfl, by rfl⟩ | exact k_loopF (e_some hF) hx1 () [(0, 0), (1, 1)] ⟨sT, sS, by rfl, by rfl⟩)
    · refine st1 ?_
      (first | have hF := e_next (e_some hF) | have hF := e_some hF)
      have hq : some _ = some _ := hF
      cases hq
      exact en1


@[reducible] noncomputable def c_river_validShoal : Con := conF F_river_validShoal (fun x => match x with | (a0, a1) => [(V.agg (eTRiver a0)), (V.agg (eTShoal a1))]) (fun r => (V.v (.bool (r))))
theorem h_river_validShoal : Has Try.prog 52 c_river_validShoal := by
  refine hasF (ctx_cons h_river_find (ctx_cons h_numbers_Within (ctx_cons h_numbers_Valid ctx_nil))) mix Try.func52 rfl (by kernel_rfl) ?_
  rintro ⟨a0, a1⟩ r hF
  refine ⟨of_decide_eq_true rfl, ?_⟩
  refine st1 ?_
  obtain ⟨_, h, hF⟩ := e_bind hF
  (first | refine g_call h lv1 ?_ | refine g_callT h lv1 ?_)
  (conv => arg 1; whnf)
  refine st1 ?_
  rcases e_bif hF with ⟨hb1, hF⟩ | ⟨hb1, hF⟩ <;> (first | rw [hb1] | (conv => arg 7; rw [hb1]) | (conv => arg 9; rw [hb1]))
  · refine st1 ?_
    obtain ⟨_, h, hF⟩ := e_bind hF
    (first | refine g_call h lv1 ?_ | refine g_callT h lv1 ?_)
    (conv => arg 1; whnf)
    refine st1 ?_
    rcases e_bif hF with ⟨hb2, hF⟩ | ⟨hb2, hF⟩ <;> (first | rw [hb2] | (conv => arg 7; rw [hb2]) | (conv => arg 9; rw [hb2]))
    · refine st1 ?_
      obtain ⟨_, h, hF⟩ := e_bind hF
      (first | refine g_call h lv1 ?_ | refine g_callT h lv1 ?_)
      (conv => arg 1; whnf)
      refine st1 ?_
      rcases e_bif hF with ⟨hb3, hF⟩ | ⟨hb3, hF⟩ <;> (first | rw [hb3] | (conv => arg 7; rw [hb3]) | (conv => arg 9; rw [hb3]))
      · refine st1 ?_
        obtain ⟨_, h, hF⟩ := e_bind hF
        (first | refine g_call h lv1 ?_ | refine g_callT h lv1 ?_)
        (conv => arg 1; whnf)
        refine st1 ?_
        have hq : some _ = some _ := hF
        cases hq
        exact en1
      · refine st1 ?_
        have hq : some _ = some _ := hF
        cases hq
        exact en1
    · refine st1 ?_
      have hq : some _ = some _ := hF
      cases hq
      exact en1
  · refine st1 ?_
    have hq : some _ = some _ := hF
    cases hq
    exact en1


@[reducible] noncomputable def c_river_Check_1 : Con := conF F_river_Check_1 (fun x => match x with | (a0, c0) => [(V.agg (eTShoal a0)), (V.fptr [(V.sl (recs eTReach (c0.Reaches)) (c0.Reaches).length), (V.sl (recs eTShoal (c0.Shoals)) (c0.Shoals).length)])]) (fun r => (V.v (.bool (r))))
theorem h_river_Check_1 : Has Try.prog 51 c_river_Check_1 := by
  refine hasF (ctx_cons h_river_validShoal ctx_nil) mix Try.func51 rfl (by kernel_rfl) ?_
  rintro ⟨a0, c0⟩ r hF
  refine ⟨of_decide_eq_true rfl, ?_⟩
  refine st1 ?_
  obtain ⟨_, h, hF⟩ := e_bind hF
  (first | refine g_call h lv1 ?_ | refine g_callT h lv1 ?_)
  (conv => arg 1; whnf)
  refine st1 ?_
  have hq : some _ = some _ := hF
  cases hq
  exact en1


@[reducible] noncomputable def c_river_Check : Con := conF F_river_Check (fun x => match x with | (a0) => [(V.agg (eTRiver a0))]) (fun r => (V.v (.int .i64 (r))))
theorem h_river_Check : Has Try.prog 38 c_river_Check := by
  refine hasF (ctx_cons (h_numbers_Every_Shoal (ctx_cons h_river_Check_1 ctx_nil)) (ctx_cons (h_numbers_Every_Reach (ctx_cons h_river_validReach ctx_nil)) (ctx_cons h_numbers_Within ctx_nil))) mix Try.func38 rfl (by kernel_rfl) ?_
  rintro a0 r hF
  refine ⟨of_decide_eq_true rfl, ?_⟩
  refine st1 ?_
  obtain ⟨_, h, hF⟩ := e_bind hF
  (first | refine g_call h lv1 ?_ | refine g_callT h lv1 ?_)
  (conv => arg 1; whnf)
  refine st1 ?_
  rcases e_bif hF with ⟨hb1, hF⟩ | ⟨hb1, hF⟩ <;> (first | rw [hb1] | (conv => arg 7; rw [hb1]) | (conv => arg 9; rw [hb1]))
  · refine st1 ?_
    have hq : some _ = some _ := hF
    cases hq
    exact en1
  · refine st1 ?_
    obtain ⟨_, h, hF⟩ := e_bind hF
    (first | refine g_hcall h lv1 (callable_conF rfl rfl (fun _ => rfl)) ?_ | refine g_hcallT h lv1 (callable_conF rfl rfl (fun _ => rfl)) ?_)
    (conv => arg 1; whnf)
    refine st1 ?_
    rcases e_bif hF with ⟨hb2, hF⟩ | ⟨hb2, hF⟩ <;> (first | rw [hb2] | (conv => arg 7; rw [hb2]) | (conv => arg 9; rw [hb2]))
    · refine st1 ?_
      have hq : some _ = some _ := hF
      cases hq
      exact en1
    · refine st1 ?_
      rcases e_bif hF with ⟨hb3, hF⟩ | ⟨hb3, hF⟩ <;> (first | rw [hb3] | (conv => arg 7; rw [hb3]) | (conv => arg 9; rw [hb3]))
      · refine st1 ?_
        have hq : some _ = some _ := hF
        cases hq
        exact en1
      · refine st1 ?_
        obtain ⟨_, h, hF⟩ := e_bind hF
        (first | refine g_hcall h lv1 (callable_conF rfl rfl (fun _ => rfl)) ?_ | refine g_hcallT h lv1 (callable_conF rfl rfl (fun _ => rfl)) ?_)
        (conv => arg 1; whnf)
        refine st1 ?_
        rcases e_bif hF with ⟨hb4, hF⟩ | ⟨hb4, hF⟩ <;> (first | rw [hb4] | (conv => arg 7; rw [hb4]) | (conv => arg 9; rw [hb4]))
        · refine st1 ?_
          have hq : some _ = some _ := hF
          cases hq
          exact en1
        · refine st1 ?_
          have hq : some _ = some _ := hF
          cases hq
          exact en1


@[reducible] noncomputable def c_numbers_Every_L_Bounds (C : FuncId → Option Con) : Con := conK F_numbers_Every_L_Bounds (fun x => match x with | (a0, a1, g, caps) => [(V.sl (recs (eS eTBounds) (a0)) (a0).length), (V.fn g caps)]) (fun x => match x with | (a0, a1, g, caps) => Callable (ext C []) g caps (fun x => match x with | (q0) => [(V.sl (recs eTBounds (q0)) (q0).length)]) (fun r => (V.v (.bool (r)))) a1) (fun r => (V.v (.bool (r))))
theorem h_numbers_Every_L_Bounds {C : FuncId → Option Con} (hC : CtxOK Try.prog C) : Has Try.prog 53 (c_numbers_Every_L_Bounds C) := by
  refine hasK (ext_nil hC) mix Try.func53 rfl (by kernel_rfl) ?_
  rintro ⟨a0, a1, g, caps⟩ r hcl hF
  obtain ⟨hcaps, c, hc, hce, hcf, hcall⟩ := id hcl
  refine ⟨of_decide_eq_true rfl, ?_⟩
  refine st1 ?_
  (first | refine st_loopF (e_assoc hF) () [] ⟨sT, sS, by rfl, by rfl⟩ ?_ | ((conv => arg 7; try simp only [List.size_toArray, List.length_cons, List.length_nil, Nat.reduceAdd, Nat.zero_add]); (conv => arg 8; try simp only [List.size_toArray, List.length_cons, List.length_nil, Nat.reduceAdd, Nat.zero_add]); (conv => arg 9; try simp only [List.size_toArray, List.length_cons, List.length_nil, Nat.reduceAdd, Nat.zero_add]); refine st_loopF (e_assoc hF) () [] ⟨sT, sS, by rfl, by rfl⟩ ?_))
  · as_aux_lemma =>
    rintro n _ _ x hx1 hF
    (conv => arg 7; whnf); (conv => arg 8; whnf); (conv => arg 9; whnf)
    refine st1 ?_
    rcases e_bif hF with ⟨hb5, hF⟩ | ⟨hb5, hF⟩ <;> (first | rw [hb5] | (conv => arg 7; rw [hb5]) | (conv => arg 9; rw [hb5]))
    · refine st1 ?_
      obtain ⟨_, h, hF⟩ := e_bind hF
      (first | refine o_ia (enc := (eS eTBounds)) (s := 1) h (fun _ => rfl) (by decide) ?_ | refine o_iaT (enc := (eS eTBounds)) (s := 1) h (fun _ => rfl) (by decide) ?_)
      intro _
      refine st1 ?_
      obtain ⟨_, h, hF⟩ := e_bind hF
      rw [hc]
      (conv => arg 1; whnf)
      rw [hce, hcf]
      (conv => arg 1; whnf)
      (first | refine go_map hcaps rfl ?_ | refine goT_map hcaps rfl ?_)
      (conv => arg 1; whnf)
      obtain ⟨z, hz1, hz2, hz3⟩ := hcall _ _ h
      (first | refine go_exi z ⟨levs_eq hz1.symm, hz2⟩ ?_ | refine goT_exi z ⟨levs_eq hz1.symm, hz2⟩ ?_)
      rw [hz3]
      (conv => arg 1; whnf)
      refine st1 ?_
      rcases e_bif hF with ⟨hb6, hF⟩ | ⟨hb6, hF⟩ <;> (first | rw [hb6] | (conv => arg 7; rw [hb6]) | (conv => arg 9; rw [hb6]))
      · refine st1 ?_
        (first | have hF := e_next (e_some hF) | have hF := e_some hF)
        have hq : some _ = some _ := hF
        cases hq
        exact en1
      · refine st1 ?_
        (first | exact k_loopF (e_some hF) hx1 () [] ⟨sT, sS, by rfl, by rfl⟩ | exact k_loopF (e_some hF) hx1 () [] ⟨sT, sS, by rfl, by rfl⟩)
    · refine st1 ?_
      (first | have hF := e_next (e_some hF) | have hF := e_some hF)
      have hq : some _ = some _ := hF
      cases hq
      exact en1


@[reducible] noncomputable def c_river_checkForecast_1 : Con := conF F_river_checkForecast_1 (fun x => match x with | (a0, c0) => [(V.sl (recs eTBounds (a0)) (a0).length), (V.fptr [(V.v (.int .i64 (c0)))])]) (fun r => (V.v (.bool (r))))
theorem h_river_checkForecast_1 : Has Try.prog 54 c_river_checkForecast_1 := by
  refine hasF ctx_nil mix Try.func54 rfl (by kernel_rfl) ?_
  rintro ⟨a0, c0⟩ r hF
  refine ⟨of_decide_eq_true rfl, ?_⟩
  refine st1 ?_
  have hq : some _ = some _ := hF
  cases hq
  exact en1


@[reducible] noncomputable def c_river_checkForecast_2 : Con := conF F_river_checkForecast_2 (fun x => match x with | (a0) => [(V.agg (eTBounds a0))]) (fun r => (V.v (.bool (r))))
theorem h_river_checkForecast_2 : Has Try.prog 55 c_river_checkForecast_2 := by
  refine hasF (ctx_cons h_numbers_Valid ctx_nil) mix Try.func55 rfl (by kernel_rfl) ?_
  rintro a0 r hF
  refine ⟨of_decide_eq_true rfl, ?_⟩
  refine st1 ?_
  obtain ⟨_, h, hF⟩ := e_bind hF
  (first | refine g_call h lv1 ?_ | refine g_callT h lv1 ?_)
  (conv => arg 1; whnf)
  refine st1 ?_
  have hq : some _ = some _ := hF
  cases hq
  exact en1


@[reducible] noncomputable def c_numbers_Every_Bounds (C : FuncId → Option Con) : Con := conK F_numbers_Every_Bounds (fun x => match x with | (a0, a1, g, caps) => [(V.sl (recs eTBounds (a0)) (a0).length), (V.fn g caps)]) (fun x => match x with | (a0, a1, g, caps) => Callable (ext C []) g caps (fun x => match x with | (q0) => [(V.agg (eTBounds q0))]) (fun r => (V.v (.bool (r)))) a1) (fun r => (V.v (.bool (r))))
theorem h_numbers_Every_Bounds {C : FuncId → Option Con} (hC : CtxOK Try.prog C) : Has Try.prog 57 (c_numbers_Every_Bounds C) := by
  refine hasK (ext_nil hC) mix Try.func57 rfl (by kernel_rfl) ?_
  rintro ⟨a0, a1, g, caps⟩ r hcl hF
  obtain ⟨hcaps, c, hc, hce, hcf, hcall⟩ := id hcl
  refine ⟨of_decide_eq_true rfl, ?_⟩
  refine st1 ?_
  (first | refine st_loopF (e_assoc hF) () [] ⟨sT, sS, by rfl, by rfl⟩ ?_ | ((conv => arg 7; try simp only [List.size_toArray, List.length_cons, List.length_nil, Nat.reduceAdd, Nat.zero_add]); (conv => arg 8; try simp only [List.size_toArray, List.length_cons, List.length_nil, Nat.reduceAdd, Nat.zero_add]); (conv => arg 9; try simp only [List.size_toArray, List.length_cons, List.length_nil, Nat.reduceAdd, Nat.zero_add]); refine st_loopF (e_assoc hF) () [] ⟨sT, sS, by rfl, by rfl⟩ ?_))
  · as_aux_lemma =>
    rintro n _ _ x hx1 hF
    (conv => arg 7; whnf); (conv => arg 8; whnf); (conv => arg 9; whnf)
    refine st1 ?_
    rcases e_bif hF with ⟨hb5, hF⟩ | ⟨hb5, hF⟩ <;> (first | rw [hb5] | (conv => arg 7; rw [hb5]) | (conv => arg 9; rw [hb5]))
    · refine st1 ?_
      obtain ⟨_, h, hF⟩ := e_bind hF
      (first | refine o_ia (enc := eTBounds) (s := 2) h (fun _ => rfl) (by decide) ?_ | refine o_iaT (enc := eTBounds) (s := 2) h (fun _ => rfl) (by decide) ?_)
      intro _
      refine st1 ?_
      obtain ⟨_, h, hF⟩ := e_bind hF
      rw [hc]
      (conv => arg 1; whnf)
      rw [hce, hcf]
      (conv => arg 1; whnf)
      (first | refine go_map hcaps rfl ?_ | refine goT_map hcaps rfl ?_)
      (conv => arg 1; whnf)
      obtain ⟨z, hz1, hz2, hz3⟩ := hcall _ _ h
      (first | refine go_exi z ⟨levs_eq hz1.symm, hz2⟩ ?_ | refine goT_exi z ⟨levs_eq hz1.symm, hz2⟩ ?_)
      rw [hz3]
      (conv => arg 1; whnf)
      refine st1 ?_
      rcases e_bif hF with ⟨hb6, hF⟩ | ⟨hb6, hF⟩ <;> (first | rw [hb6] | (conv => arg 7; rw [hb6]) | (conv => arg 9; rw [hb6]))
      · refine st1 ?_
        (first | have hF := e_next (e_some hF) | have hF := e_some hF)
        have hq : some _ = some _ := hF
        cases hq
        exact en1
      · refine st1 ?_
        (first | exact k_loopF (e_some hF) hx1 () [] ⟨sT, sS, by rfl, by rfl⟩ | exact k_loopF (e_some hF) hx1 () [] ⟨sT, sS, by rfl, by rfl⟩)
    · refine st1 ?_
      (first | have hF := e_next (e_some hF) | have hF := e_some hF)
      have hq : some _ = some _ := hF
      cases hq
      exact en1


@[reducible] noncomputable def c_river_checkForecast_3 (C : FuncId → Option Con) : Con := conK F_river_checkForecast_3 (fun x => match x with | (a0, c0, g, caps) => [(V.sl (recs eTBounds (a0)) (a0).length), (V.fptr [(V.fn g caps)])]) (fun x => match x with | (a0, c0, g, caps) => Callable (ext C []) g caps (fun x => match x with | (q0) => [(V.agg (eTBounds q0))]) (fun r => (V.v (.bool (r)))) c0 ∧ Callable (ext C [(57, c_numbers_Every_Bounds C)]) g caps (fun x => match x with | (q0) => [(V.agg (eTBounds q0))]) (fun r => (V.v (.bool (r)))) c0) (fun r => (V.v (.bool (r))))
theorem h_river_checkForecast_3 {C : FuncId → Option Con} (hC : CtxOK Try.prog C) : Has Try.prog 56 (c_river_checkForecast_3 C) := by
  refine hasK (ext_cons (h_numbers_Every_Bounds hC) (ext_nil hC)) mix Try.func56 rfl (by kernel_rfl) ?_
  rintro ⟨a0, c0, g, caps⟩ r ⟨hc0, hcl⟩ hF
  obtain ⟨hcaps, c, hc, hce, hcf, hcall⟩ := id hcl
  refine ⟨of_decide_eq_true rfl, ?_⟩
  refine st1 ?_
  obtain ⟨_, h, hF⟩ := e_bind hF
  (first | refine go_map hcaps rfl ?_ | refine goT_map hcaps rfl ?_)
  (conv => arg 1; whnf)
  (first | refine g_hcall h lv1 (by exact hc0) ?_ | refine g_hcallT h lv1 (by exact hc0) ?_)
  (conv => arg 1; whnf)
  refine st1 ?_
  have hq : some _ = some _ := hF
  cases hq
  exact en1


@[reducible] noncomputable def c_river_checkForecast : Con := conF F_river_checkForecast (fun x => match x with | (a0, a1) => [(V.agg (eTRiver a0)), (V.sl (recs (eS eTBounds) (a1)) (a1).length)]) (fun r => (V.v (.int .i64 (r))))
theorem h_river_checkForecast : Has Try.prog 39 c_river_checkForecast := by
  refine hasF (ctx_cons (h_numbers_Every_L_Bounds (ctx_cons (h_river_checkForecast_3 (ctx_cons h_river_checkForecast_2 ctx_nil)) (ctx_cons h_river_checkForecast_1 ctx_nil))) ctx_nil) mix Try.func39 rfl (by kernel_rfl) ?_
  rintro ⟨a0, a1⟩ r hF
  refine ⟨of_decide_eq_true rfl, ?_⟩
  refine st1 ?_
  rcases e_bif hF with ⟨hb1, hF⟩ | ⟨hb1, hF⟩ <;> (first | rw [hb1] | (conv => arg 7; rw [hb1]) | (conv => arg 9; rw [hb1]))
  · refine st1 ?_
    have hq : some _ = some _ := hF
    cases hq
    exact en1
  · refine st1 ?_
    obtain ⟨_, h, hF⟩ := e_bind hF
    (first | refine o_ia (enc := (eS eTBounds)) (s := 1) h (fun _ => rfl) (by decide) ?_ | refine o_iaT (enc := (eS eTBounds)) (s := 1) h (fun _ => rfl) (by decide) ?_)
    intro _
    refine st1 ?_
    rcases e_bif hF with ⟨hb2, hF⟩ | ⟨hb2, hF⟩ <;> (first | rw [hb2] | (conv => arg 7; rw [hb2]) | (conv => arg 9; rw [hb2]))
    · refine st1 ?_
      have hq : some _ = some _ := hF
      cases hq
      exact en1
    · refine st1 ?_
      obtain ⟨_, h, hF⟩ := e_bind hF
      (first | refine g_hcall h lv1 (callable_conF rfl rfl (fun _ => rfl)) ?_ | refine g_hcallT h lv1 (callable_conF rfl rfl (fun _ => rfl)) ?_)
      (conv => arg 1; whnf)
      refine st1 ?_
      rcases e_bif hF with ⟨hb3, hF⟩ | ⟨hb3, hF⟩ <;> (first | rw [hb3] | (conv => arg 7; rw [hb3]) | (conv => arg 9; rw [hb3]))
      · refine st1 ?_
        have hq : some _ = some _ := hF
        cases hq
        exact en1
      · refine st1 ?_
        rcases e_bif hF with ⟨hb4, hF⟩ | ⟨hb4, hF⟩ <;> (first | rw [hb4] | (conv => arg 7; rw [hb4]) | (conv => arg 9; rw [hb4]))
        · refine st1 ?_
          have hq : some _ = some _ := hF
          cases hq
          exact en1
        · refine st1 ?_
          obtain ⟨_, h, hF⟩ := e_bind hF
          (first | refine g_hcall h lv1 (callable_conK rfl rfl (fun _ => rfl) (fun _ => ⟨callable_conF rfl rfl (fun _ => rfl), callable_conF rfl rfl (fun _ => rfl)⟩)) ?_ | refine g_hcallT h lv1 (callable_conK rfl rfl (fun _ => rfl) (fun _ => ⟨callable_conF rfl rfl (fun _ => rfl), callable_conF rfl rfl (fun _ => rfl)⟩)) ?_)
          (conv => arg 1; whnf)
          refine st1 ?_
          rcases e_bif hF with ⟨hb5, hF⟩ | ⟨hb5, hF⟩ <;> (first | rw [hb5] | (conv => arg 7; rw [hb5]) | (conv => arg 9; rw [hb5]))
          · refine st1 ?_
            have hq : some _ = some _ := hF
            cases hq
            exact en1
          · refine st1 ?_
            have hq : some _ = some _ := hF
            cases hq
            exact en1


@[reducible] noncomputable def c_river_stream_inflow : Con := conF F_river_stream_inflow (fun x => match x with | (a0, a1, a2) => [(V.agg (eTriver_stream a0)), (V.v (.int .i64 (a1))), (V.v (.int .i64 (a2)))]) (fun r => (V.agg (eTBounds r)))
theorem h_river_stream_inflow : Has Try.prog 40 c_river_stream_inflow := by
  refine hasF ctx_nil mix Try.func40 rfl (by kernel_rfl) ?_
  rintro ⟨a0, a1, a2⟩ r hF
  refine ⟨of_decide_eq_true rfl, ?_⟩
  refine st1 ?_
  rcases e_bif hF with ⟨hb1, hF⟩ | ⟨hb1, hF⟩ <;> (first | rw [hb1] | (conv => arg 7; rw [hb1]) | (conv => arg 9; rw [hb1]))
  · refine st1 ?_
    have hq : some _ = some _ := hF
    cases hq
    exact en1
  · refine st1 ?_
    obtain ⟨_, h, hF⟩ := e_bind hF
    (first | refine o_ia (enc := eTReach) (s := 9) h (fun _ => rfl) (by decide) ?_ | refine o_iaT (enc := eTReach) (s := 9) h (fun _ => rfl) (by decide) ?_)
    intro _
    refine st1 ?_
    rcases e_bif hF with ⟨hb2, hF⟩ | ⟨hb2, hF⟩ <;> (first | rw [hb2] | (conv => arg 7; rw [hb2]) | (conv => arg 9; rw [hb2]))
    · refine st1 ?_
      have hq : some _ = some _ := hF
      cases hq
      exact en1
    · refine st1 ?_
      obtain ⟨_, h, hF⟩ := e_bind hF
      (first | refine o_ia (enc := (eS eTBounds)) (s := 1) h (fun _ => rfl) (by decide) ?_ | refine o_iaT (enc := (eS eTBounds)) (s := 1) h (fun _ => rfl) (by decide) ?_)
      intro _
      refine st1 ?_
      obtain ⟨_, h, hF⟩ := e_bind hF
      (first | refine o_ia (enc := eTBounds) (s := 2) h (fun _ => rfl) (by decide) ?_ | refine o_iaT (enc := eTBounds) (s := 2) h (fun _ => rfl) (by decide) ?_)
      intro _
      refine st1 ?_
      have hq : some _ = some _ := hF
      cases hq
      exact en1


@[reducible] noncomputable def c_river_run : Con := conF F_river_run (fun x => match x with | (a0, a1) => [(V.agg (eTRiver a0)), (V.sl (recs (eS eTBounds) (a1)) (a1).length)]) (fun r => V.tup [(V.agg (eTriver_stream r.1)), (V.v (.int .i64 (r.2)))])
theorem h_river_run : Has Try.prog 24 c_river_run := by
  refine hasF (ctx_cons h_river_stream_inflow (ctx_cons h_river_checkForecast (ctx_cons h_river_Check (ctx_cons h_numbers_Sum ctx_nil)))) mix Try.func24 rfl (by kernel_rfl) ?_
  rintro ⟨a0, a1⟩ r hF
  refine ⟨of_decide_eq_true rfl, ?_⟩
  refine st1 ?_
  obtain ⟨_, h, hF⟩ := e_bind hF
  (first | refine g_call h lv1 ?_ | refine g_callT h lv1 ?_)
  (conv => arg 1; whnf)
  refine st1 ?_
  rcases e_bif hF with ⟨hb1, hF⟩ | ⟨hb1, hF⟩ <;> (first | rw [hb1] | (conv => arg 7; rw [hb1]) | (conv => arg 9; rw [hb1]))
  · refine st1 ?_
    have hq : some _ = some _ := hF
    cases hq
    exact en1
  · refine st1 ?_
    obtain ⟨_, h, hF⟩ := e_bind hF
    (first | refine g_call h lv1 ?_ | refine g_callT h lv1 ?_)
    (conv => arg 1; whnf)
    refine st1 ?_
    rcases e_bif hF with ⟨hb2, hF⟩ | ⟨hb2, hF⟩ <;> (first | rw [hb2] | (conv => arg 7; rw [hb2]) | (conv => arg 9; rw [hb2]))
    · refine st1 ?_
      have hq : some _ = some _ := hF
      cases hq
      exact en1
    · refine st1 ?_
      (first | refine st_loopF (e_assoc hF) 0 [(1, _), (16, _)] ⟨sT, sS, by rfl, by rfl⟩ ?_ | ((conv => arg 7; try simp only [List.size_toArray, List.length_cons, List.length_nil, Nat.reduceAdd, Nat.zero_add]); (conv => arg 8; try simp only [List.size_toArray, List.length_cons, List.length_nil, Nat.reduceAdd, Nat.zero_add]); (conv => arg 9; try simp only [List.size_toArray, List.length_cons, List.length_nil, Nat.reduceAdd, Nat.zero_add]); refine st_loopF (e_assoc hF) 0 [(1, 1), (16, 16)] ⟨sT, sS, by rfl, by rfl⟩ ?_))
      · as_aux_lemma =>
        rintro n ⟨_, _⟩ _ x hx1 hF
        (conv => arg 7; whnf); (conv => arg 8; whnf); (conv => arg 9; whnf)
        refine st1 ?_
        rcases e_bif hF with ⟨hb15, hF⟩ | ⟨hb15, hF⟩ <;> (first | rw [hb15] | (conv => arg 7; rw [hb15]) | (conv => arg 9; rw [hb15]))
        · refine st1 ?_
          obtain ⟨_, h, hF⟩ := e_bind hF
          (first | refine o_ia (enc := (eS eTBounds)) (s := 1) h (fun _ => rfl) (by decide) ?_ | refine o_iaT (enc := (eS eTBounds)) (s := 1) h (fun _ => rfl) (by decide) ?_)
          intro _
          refine st1 ?_
          obtain ⟨_, h, hF⟩ := e_bind hF
          (first | refine o_mk (enc := eTBounds) (s := 2) h (by decide) rfl ?_ | refine o_mkT (enc := eTBounds) (s := 2) h (by decide) rfl ?_)
          refine st1 ?_
          (first | refine st_loopF (e_assoc hF) _ [(1, _), (16, _), (17, _), (26, _)] ⟨sT, sS, by rfl, by rfl⟩ ?_ | ((conv => arg 7; try simp only [List.size_toArray, List.length_cons, List.length_nil, Nat.reduceAdd, Nat.zero_add]); (conv => arg 8; try simp only [List.size_toArray, List.length_cons, List.length_nil, Nat.reduceAdd, Nat.zero_add]); (conv => arg 9; try simp only [List.size_toArray, List.length_cons, List.length_nil, Nat.reduceAdd, Nat.zero_add]); refine st_loopF (e_assoc hF) _ [(1, 1), (16, 16), (17, 17), (26, 26)] ⟨sT, sS, by rfl, by rfl⟩ ?_))
          · as_aux_lemma =>
            rintro n ⟨_, _⟩ _ x hx2 hF
            (conv => arg 7; whnf); (conv => arg 8; whnf); (conv => arg 9; whnf)
            refine st1 ?_
            rcases e_bif hF with ⟨hb18, hF⟩ | ⟨hb18, hF⟩ <;> (first | rw [hb18] | (conv => arg 7; rw [hb18]) | (conv => arg 9; rw [hb18]))
            · refine st1 ?_
              obtain ⟨_, h, hF⟩ := e_bind hF
              (first | refine o_ia (enc := eTBounds) (s := 2) h (fun _ => rfl) (by decide) ?_ | refine o_iaT (enc := eTBounds) (s := 2) h (fun _ => rfl) (by decide) ?_)
              intro _
              refine st1 ?_
              obtain ⟨_, h, hF⟩ := e_bind hF
              (first | refine g_call h lv1 ?_ | refine g_callT h lv1 ?_)
              (conv => arg 1; whnf)
              refine st1 ?_
              obtain ⟨_, h, hF⟩ := e_bind hF
              (first | refine g_call h lv1 ?_ | refine g_callT h lv1 ?_)
              (conv => arg 1; whnf)
              refine st1 ?_
              obtain ⟨_, hi37, hF⟩ := e_bind hF
              (first | refine go_req (oidx_ok hi37 (by decide)) ?_ | refine goT_req (oidx_ok hi37 (by decide)) ?_ | refine go_req (oidx_len hi37 (set_len (by assumption)) (by decide)) ?_ | refine goT_req (oidx_len hi37 (set_len (by assumption)) (by decide)) ?_)
              (conv => arg 1; whnf)
              refine st1 ?_
              obtain ⟨_, h, hF⟩ := e_bind hF
              (first | refine o_stA (enc := eTBounds) (s := 2) hi37 h (fun _ => rfl) (by decide) rfl rfl ?_ | refine o_stB (enc := eTBounds) (s := 2) hi37 h (fun _ => rfl) (by decide) rfl rfl ?_ | refine o_stAT (enc := eTBounds) (s := 2) hi37 h (fun _ => rfl) (by decide) rfl rfl ?_ | refine o_stBT (enc := eTBounds) (s := 2) hi37 h (fun _ => rfl) (by decide) rfl rfl ?_ | refine o_stC (enc := eTBounds) (s := 2) hi37 h (fun _ => rfl) (by decide) rfl rfl ?_ | refine o_stCT (enc := eTBounds) (s := 2) hi37 h (fun _ => rfl) (by decide) rfl rfl ?_)
              refine st1 ?_
              (first | exact k_loopF (e_some hF) hx2 _ [(1, _), (16, _), (17, _), (26, _)] ⟨sT, sS, by rfl, by rfl⟩ | exact k_loopF (e_some hF) hx2 _ [(1, 1), (16, 16), (17, 17), (26, 26)] ⟨sT, sS, by rfl, by rfl⟩)
            · refine st1 ?_
              (first | have hF := e_next (e_some hF) | have hF := e_some hF)
              obtain ⟨_, h, hF⟩ := e_bind hF
              (first | refine o_app (enc := (eS eTBounds)) (s := 1) h (fun _ => rfl) ?_ | refine o_appT (enc := (eS eTBounds)) (s := 1) h (fun _ => rfl) ?_)
              refine st1 ?_
              (first | exact k_loopF (e_some hF) hx1 _ [(1, _), (16, _), (17, _)] ⟨sT, sS, by rfl, by rfl⟩ | exact k_loopF (e_some hF) hx1 _ [(1, 1), (16, 16), (17, 17)] ⟨sT, sS, by rfl, by rfl⟩)
        · refine st1 ?_
          (first | have hF := e_next (e_some hF) | have hF := e_some hF)
          have hq : some _ = some _ := hF
          cases hq
          exact en1


@[reducible] noncomputable def c_river_Flows : Con := conF F_river_Flows (fun x => match x with | (a0, a1) => [(V.agg (eTRiver a0)), (V.sl (recs (eS eTBounds) (a1)) (a1).length)]) (fun r => V.tup [(V.sl (recs (eS eTBounds) (r.1)) (r.1).length), (V.v (.int .i64 (r.2)))])
theorem h_river_Flows : Has Try.prog 15 c_river_Flows := by
  refine hasF (ctx_cons h_river_run ctx_nil) mix Try.func15 rfl (by kernel_rfl) ?_
  rintro ⟨a0, a1⟩ r hF
  refine ⟨of_decide_eq_true rfl, ?_⟩
  refine st1 ?_
  obtain ⟨_, h, hF⟩ := e_bind hF
  (first | refine g_call h lv1 ?_ | refine g_callT h lv1 ?_)
  (conv => arg 1; whnf)
  refine st1 ?_
  have hq : some _ = some _ := hF
  cases hq
  exact en1


end Go.Ev
