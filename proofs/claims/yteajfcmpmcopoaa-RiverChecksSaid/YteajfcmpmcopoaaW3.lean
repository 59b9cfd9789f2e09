/- A part of the proof of RiverChecksSaid. -/
import Derived.Test.YteajfcmpmcopoaaProg
import Derived.Test.YteajfcmpmcopoaaW2
/- The functions do what is said. -/
set_option linter.unusedVariables false
set_option linter.unusedSimpArgs false
namespace Go.Ev
open Go.Proofs
set_option maxHeartbeats 1000000
set_option maxRecDepth 100000
theorem mix : Try.prog.follows .mixedOrders = true := by kernel_rfl
@[reducible] noncomputable def c_thalweglaw01_large : Con := conF F_thalweglaw01_large (fun x => match x with | (a0) => [(V.agg (eTthalweglaw01_Forecast a0))]) (fun r => (V.v (.bool (r))))
theorem h_thalweglaw01_large : Has Try.prog 16 c_thalweglaw01_large := by
  refine hasF ctx_nil mix Try.func16 rfl (by kernel_rfl) ?_
  rintro a0 r hF
  refine ⟨of_decide_eq_true rfl, ?_⟩
  refine st1 ?_
  rcases e_bif hF with ⟨hb, hF⟩ | ⟨hb, hF⟩ <;> rw [hb]
  · refine st1 ?_
    have hq : some _ = some _ := hF
    cases hq
    exact en1
  · refine st1 ?_
    rcases e_bif hF with ⟨hb, hF⟩ | ⟨hb, hF⟩ <;> rw [hb]
    · refine st1 ?_
      have hq : some _ = some _ := hF
      cases hq
      exact en1
    · refine st1 ?_
      rcases e_bif hF with ⟨hb, hF⟩ | ⟨hb, hF⟩ <;> rw [hb]
      · refine st1 ?_
        have hq : some _ = some _ := hF
        cases hq
        exact en1
      · refine st1 ?_
        refine st_loopF (e_assoc hF) () [(0, _)] ⟨sT, sS, by rfl, by rfl⟩ ?_
        · rintro n _ _ x hx1 hF
          (conv => arg 7; whnf); (conv => arg 8; whnf); (conv => arg 9; whnf)
          refine st1 ?_
          rcases e_bif hF with ⟨hb, hF⟩ | ⟨hb, hF⟩ <;> rw [hb]
          · refine st1 ?_
            obtain ⟨_, h, hF⟩ := e_bind hF
            (first | refine o_ia (enc := eTReach) (s := 9) h (fun _ => rfl) (by decide) ?_ | refine o_iaT (enc := eTReach) (s := 9) h (fun _ => rfl) (by decide) ?_)
            intro _
            refine st1 ?_
            rcases e_bif hF with ⟨hb, hF⟩ | ⟨hb, hF⟩ <;> rw [hb]
            · refine st1 ?_
              have hF := e_some hF
              have hq : some _ = some _ := hF
              cases hq
              exact en1
            · refine st1 ?_
              exact k_loopF (e_some hF) hx1 () [(0, _)] ⟨sT, sS, by rfl, by rfl⟩
          · refine st1 ?_
            have hF := e_some hF
            refine st_loopF (e_assoc hF) () [(0, _)] ⟨sT, sS, by rfl, by rfl⟩ ?_
            · rintro n _ _ x hx1 hF
              (conv => arg 7; whnf); (conv => arg 8; whnf); (conv => arg 9; whnf)
              refine st1 ?_
              rcases e_bif hF with ⟨hb, hF⟩ | ⟨hb, hF⟩ <;> rw [hb]
              · refine st1 ?_
                obtain ⟨_, h, hF⟩ := e_bind hF
                (first | refine o_ia (enc := (eS eTBounds)) (s := 1) h (fun _ => rfl) (by decide) ?_ | refine o_iaT (enc := (eS eTBounds)) (s := 1) h (fun _ => rfl) (by decide) ?_)
                intro _
                refine st1 ?_
                rcases e_bif hF with ⟨hb, hF⟩ | ⟨hb, hF⟩ <;> rw [hb]
                · refine st1 ?_
                  have hF := e_some hF
                  have hq : some _ = some _ := hF
                  cases hq
                  exact en1
                · refine st1 ?_
                  exact k_loopF (e_some hF) hx1 () [(0, _)] ⟨sT, sS, by rfl, by rfl⟩
              · refine st1 ?_
                have hF := e_some hF
                have hq : some _ = some _ := hF
                cases hq
                exact en1


@[reducible] noncomputable def c_thalweglaw01_copied : Con := conF F_thalweglaw01_copied (fun x => match x with | (a0) => [(V.agg (eTRiver a0))]) (fun r => (V.agg (eTRiver r)))
theorem h_thalweglaw01_copied : Has Try.prog 18 c_thalweglaw01_copied := by
  refine hasF ctx_nil mix Try.func18 rfl (by kernel_rfl) ?_
  rintro a0 r hF
  refine ⟨of_decide_eq_true rfl, ?_⟩
  refine st1 ?_
  refine st_loopF (e_assoc hF) () [(0, _), (1, _), (2, _)] ⟨sT, sS, by rfl, by rfl⟩ ?_
  · rintro n ⟨_, _⟩ _ x hx1 hF
    (conv => arg 7; whnf); (conv => arg 8; whnf); (conv => arg 9; whnf)
    refine st1 ?_
    rcases e_bif hF with ⟨hb, hF⟩ | ⟨hb, hF⟩ <;> rw [hb]
    · refine st1 ?_
      obtain ⟨_, h, hF⟩ := e_bind hF
      (first | refine o_ia (enc := eTReach) (s := 9) h (fun _ => rfl) (by decide) ?_ | refine o_iaT (enc := eTReach) (s := 9) h (fun _ => rfl) (by decide) ?_)
      intro _
      refine st1 ?_
      obtain ⟨_, h, hF⟩ := e_bind hF
      (first | refine o_app (enc := eTRateRow) (s := 2) h (fun _ => rfl) ?_ | refine o_appT (enc := eTRateRow) (s := 2) h (fun _ => rfl) ?_)
      refine st1 ?_
      obtain ⟨_, h, hF⟩ := e_bind hF
      (first | refine o_app (enc := eTReach) (s := 9) h (fun _ => rfl) ?_ | refine o_appT (enc := eTReach) (s := 9) h (fun _ => rfl) ?_)
      refine st1 ?_
      exact k_loopF (e_some hF) hx1 () [(0, _), (1, _), (2, _)] ⟨sT, sS, by rfl, by rfl⟩
    · refine st1 ?_
      have hF := e_some hF
      obtain ⟨_, h, hF⟩ := e_bind hF
      (first | refine o_app (enc := eTShoal) (s := 6) h (fun _ => rfl) ?_ | refine o_appT (enc := eTShoal) (s := 6) h (fun _ => rfl) ?_)
      refine st1 ?_
      have hq : some _ = some _ := hF
      cases hq
      exact en1


@[reducible] noncomputable def c_numbers_Every_int (C : FuncId → Option Con) : Con := conK F_numbers_Every_int (fun x => match x with | (a0, a1, g, caps) => [(V.sl (recs (eI .i64) (a0)) (a0).length), (V.fn g caps)]) (fun x => match x with | (a0, a1, g, caps) => Callable (ext C []) g caps (fun x => match x with | (q0) => [(V.v (.int .i64 (q0)))]) (fun r => (V.v (.bool (r)))) a1) (fun r => (V.v (.bool (r))))
theorem h_numbers_Every_int {C : FuncId → Option Con} (hC : CtxOK Try.prog C) : Has Try.prog 88 (c_numbers_Every_int C) := by
  refine hasK (ext_nil hC) mix Try.func88 rfl (by kernel_rfl) ?_
  rintro ⟨a0, a1, g, caps⟩ r hcl hF
  obtain ⟨hcaps, c, hc, hce, hcall⟩ := id hcl
  refine ⟨of_decide_eq_true rfl, ?_⟩
  refine st1 ?_
  refine st_loopF (e_assoc hF) () [] ⟨sT, sS, by rfl, by rfl⟩ ?_
  · rintro n _ _ x hx1 hF
    (conv => arg 7; whnf); (conv => arg 8; whnf); (conv => arg 9; whnf)
    refine st1 ?_
    rcases e_bif hF with ⟨hb, hF⟩ | ⟨hb, hF⟩ <;> rw [hb]
    · refine st1 ?_
      obtain ⟨_, h, hF⟩ := e_bind hF
      (first | refine o_ia (enc := (eI .i64)) (s := 1) h (fun _ => rfl) (by decide) ?_ | refine o_iaT (enc := (eI .i64)) (s := 1) h (fun _ => rfl) (by decide) ?_)
      intro _
      refine st1 ?_
      obtain ⟨_, h, hF⟩ := e_bind hF
      rw [hc]
      (conv => arg 1; whnf)
      rw [hce]
      (conv => arg 1; whnf)
      (first | refine go_map hcaps rfl ?_ | refine goT_map hcaps rfl ?_)
      (conv => arg 1; whnf)
      obtain ⟨z, hz1, hz2, hz3⟩ := hcall _ _ h
      (first | refine go_exi z ⟨levs_eq hz1.symm, hz2⟩ ?_ | refine goT_exi z ⟨levs_eq hz1.symm, hz2⟩ ?_)
      rw [hz3]
      (conv => arg 1; whnf)
      refine st1 ?_
      rcases e_bif hF with ⟨hb, hF⟩ | ⟨hb, hF⟩ <;> rw [hb]
      · refine st1 ?_
        have hF := e_some hF
        have hq : some _ = some _ := hF
        cases hq
        exact en1
      · refine st1 ?_
        exact k_loopF (e_some hF) hx1 () [] ⟨sT, sS, by rfl, by rfl⟩
    · refine st1 ?_
      have hF := e_some hF
      have hq : some _ = some _ := hF
      cases hq
      exact en1


@[reducible] noncomputable def c_numbers_Within_1 : Con := conF F_numbers_Within_1 (fun x => match x with | (a0, c0, c1) => [(V.v (.int .i64 (a0))), (V.fptr [(V.v (.int .i64 (c0)))]), (V.fptr [(V.v (.int .i64 (c1)))])]) (fun r => (V.v (.bool (r))))
theorem h_numbers_Within_1 : Has Try.prog 89 c_numbers_Within_1 := by
  refine hasF ctx_nil mix Try.func89 rfl (by kernel_rfl) ?_
  rintro ⟨a0, c0, c1⟩ r hF
  refine ⟨of_decide_eq_true rfl, ?_⟩
  refine st1 ?_
  rcases e_bif hF with ⟨hb, hF⟩ | ⟨hb, hF⟩ <;> rw [hb]
  · refine st1 ?_
    have hq : some _ = some _ := hF
    cases hq
    exact en1
  · refine st1 ?_
    have hq : some _ = some _ := hF
    cases hq
    exact en1


@[reducible] noncomputable def c_numbers_Within : Con := conF F_numbers_Within (fun x => match x with | (a0, a1, a2) => [(V.v (.int .i64 (a0))), (V.v (.int .i64 (a1))), (V.sl (recs (eI .i64) (a2)) (a2).length)]) (fun r => (V.v (.bool (r))))
theorem h_numbers_Within : Has Try.prog 57 c_numbers_Within := by
  refine hasF (ctx_cons (h_numbers_Every_int (ctx_cons h_numbers_Within_1 ctx_nil)) ctx_nil) mix Try.func57 rfl (by kernel_rfl) ?_
  rintro ⟨a0, a1, a2⟩ r hF
  refine ⟨of_decide_eq_true rfl, ?_⟩
  refine st1 ?_
  obtain ⟨_, h, hF⟩ := e_bind hF
  (first | refine g_hcall h lv1 (callable_conF rfl rfl (fun _ => rfl)) ?_ | refine g_hcallT h lv1 (callable_conF rfl rfl (fun _ => rfl)) ?_)
  (conv => arg 1; whnf)
  refine st1 ?_
  have hq : some _ = some _ := hF
  cases hq
  exact en1


@[reducible] noncomputable def c_numbers_Every_Reach (C : FuncId → Option Con) : Con := conK F_numbers_Every_Reach (fun x => match x with | (a0, a1, g, caps) => [(V.sl (recs eTReach (a0)) (a0).length), (V.fn g caps)]) (fun x => match x with | (a0, a1, g, caps) => Callable (ext C []) g caps (fun x => match x with | (q0) => [(V.agg (eTReach q0))]) (fun r => (V.v (.bool (r)))) a1) (fun r => (V.v (.bool (r))))
theorem h_numbers_Every_Reach {C : FuncId → Option Con} (hC : CtxOK Try.prog C) : Has Try.prog 58 (c_numbers_Every_Reach C) := by
  refine hasK (ext_nil hC) mix Try.func58 rfl (by kernel_rfl) ?_
  rintro ⟨a0, a1, g, caps⟩ r hcl hF
  obtain ⟨hcaps, c, hc, hce, hcall⟩ := id hcl
  refine ⟨of_decide_eq_true rfl, ?_⟩
  refine st1 ?_
  refine st_loopF (e_assoc hF) () [] ⟨sT, sS, by rfl, by rfl⟩ ?_
  · rintro n _ _ x hx1 hF
    (conv => arg 7; whnf); (conv => arg 8; whnf); (conv => arg 9; whnf)
    refine st1 ?_
    rcases e_bif hF with ⟨hb, hF⟩ | ⟨hb, hF⟩ <;> rw [hb]
    · refine st1 ?_
      obtain ⟨_, h, hF⟩ := e_bind hF
      (first | refine o_ia (enc := eTReach) (s := 9) h (fun _ => rfl) (by decide) ?_ | refine o_iaT (enc := eTReach) (s := 9) h (fun _ => rfl) (by decide) ?_)
      intro _
      refine st1 ?_
      obtain ⟨_, h, hF⟩ := e_bind hF
      rw [hc]
      (conv => arg 1; whnf)
      rw [hce]
      (conv => arg 1; whnf)
      (first | refine go_map hcaps rfl ?_ | refine goT_map hcaps rfl ?_)
      (conv => arg 1; whnf)
      obtain ⟨z, hz1, hz2, hz3⟩ := hcall _ _ h
      (first | refine go_exi z ⟨levs_eq hz1.symm, hz2⟩ ?_ | refine goT_exi z ⟨levs_eq hz1.symm, hz2⟩ ?_)
      rw [hz3]
      (conv => arg 1; whnf)
      refine st1 ?_
      rcases e_bif hF with ⟨hb, hF⟩ | ⟨hb, hF⟩ <;> rw [hb]
      · refine st1 ?_
        have hF := e_some hF
        have hq : some _ = some _ := hF
        cases hq
        exact en1
      · refine st1 ?_
        exact k_loopF (e_some hF) hx1 () [] ⟨sT, sS, by rfl, by rfl⟩
    · refine st1 ?_
      have hF := e_some hF
      have hq : some _ = some _ := hF
      cases hq
      exact en1


@[reducible] noncomputable def c_numbers_Valid : Con := conF F_numbers_Valid (fun x => match x with | (a0, a1, a2) => [(V.agg (eTBounds a0)), (V.v (.int .i64 (a1))), (V.v (.int .i64 (a2)))]) (fun r => (V.v (.bool (r))))
theorem h_numbers_Valid : Has Try.prog 63 c_numbers_Valid := by
  refine hasF (ctx_cons h_numbers_Within ctx_nil) mix Try.func63 rfl (by kernel_rfl) ?_
  rintro ⟨a0, a1, a2⟩ r hF
  refine ⟨of_decide_eq_true rfl, ?_⟩
  refine st1 ?_
  rcases e_bif hF with ⟨hb, hF⟩ | ⟨hb, hF⟩ <;> rw [hb]
  · refine st1 ?_
    obtain ⟨_, h, hF⟩ := e_bind hF
    (first | refine g_call h lv1 ?_ | refine g_callT h lv1 ?_)
    (conv => arg 1; whnf)
    refine st1 ?_
    have hq : some _ = some _ := hF
    cases hq
    exact en1
  · refine st1 ?_
    have hq : some _ = some _ := hF
    cases hq
    exact en1


@[reducible] noncomputable def c_river_validCurve_1 : Con := conF F_river_validCurve_1 (fun x => match x with | (a0, a1) => [(V.agg (eTRateRow a0)), (V.agg (eTRateRow a1))]) (fun r => (V.v (.bool (r))))
theorem h_river_validCurve_1 : Has Try.prog 101 c_river_validCurve_1 := by
  refine hasF ctx_nil mix Try.func101 rfl (by kernel_rfl) ?_
  rintro ⟨a0, a1⟩ r hF
  refine ⟨of_decide_eq_true rfl, ?_⟩
  refine st1 ?_
  rcases e_bif hF with ⟨hb, hF⟩ | ⟨hb, hF⟩ <;> rw [hb]
  · refine st1 ?_
    have hq : some _ = some _ := hF
    cases hq
    exact en1
  · refine st1 ?_
    have hq : some _ = some _ := hF
    cases hq
    exact en1


@[reducible] noncomputable def c_numbers_Every_RateRow (C : FuncId → Option Con) : Con := conK F_numbers_Every_RateRow (fun x => match x with | (a0, a1, g, caps) => [(V.sl (recs eTRateRow (a0)) (a0).length), (V.fn g caps)]) (fun x => match x with | (a0, a1, g, caps) => Callable (ext C []) g caps (fun x => match x with | (q0) => [(V.agg (eTRateRow q0))]) (fun r => (V.v (.bool (r)))) a1) (fun r => (V.v (.bool (r))))
theorem h_numbers_Every_RateRow {C : FuncId → Option Con} (hC : CtxOK Try.prog C) : Has Try.prog 102 (c_numbers_Every_RateRow C) := by
  refine hasK (ext_nil hC) mix Try.func102 rfl (by kernel_rfl) ?_
  rintro ⟨a0, a1, g, caps⟩ r hcl hF
  obtain ⟨hcaps, c, hc, hce, hcall⟩ := id hcl
  refine ⟨of_decide_eq_true rfl, ?_⟩
  refine st1 ?_
  refine st_loopF (e_assoc hF) () [] ⟨sT, sS, by rfl, by rfl⟩ ?_
  · rintro n _ _ x hx1 hF
    (conv => arg 7; whnf); (conv => arg 8; whnf); (conv => arg 9; whnf)
    refine st1 ?_
    rcases e_bif hF with ⟨hb, hF⟩ | ⟨hb, hF⟩ <;> rw [hb]
    · refine st1 ?_
      obtain ⟨_, h, hF⟩ := e_bind hF
      (first | refine o_ia (enc := eTRateRow) (s := 2) h (fun _ => rfl) (by decide) ?_ | refine o_iaT (enc := eTRateRow) (s := 2) h (fun _ => rfl) (by decide) ?_)
      intro _
      refine st1 ?_
      obtain ⟨_, h, hF⟩ := e_bind hF
      rw [hc]
      (conv => arg 1; whnf)
      rw [hce]
      (conv => arg 1; whnf)
      (first | refine go_map hcaps rfl ?_ | refine goT_map hcaps rfl ?_)
      (conv => arg 1; whnf)
      obtain ⟨z, hz1, hz2, hz3⟩ := hcall _ _ h
      (first | refine go_exi z ⟨levs_eq hz1.symm, hz2⟩ ?_ | refine goT_exi z ⟨levs_eq hz1.symm, hz2⟩ ?_)
      rw [hz3]
      (conv => arg 1; whnf)
      refine st1 ?_
      rcases e_bif hF with ⟨hb, hF⟩ | ⟨hb, hF⟩ <;> rw [hb]
      · refine st1 ?_
        have hF := e_some hF
        have hq : some _ = some _ := hF
        cases hq
        exact en1
      · refine st1 ?_
        exact k_loopF (e_some hF) hx1 () [] ⟨sT, sS, by rfl, by rfl⟩
    · refine st1 ?_
      have hF := e_some hF
      have hq : some _ = some _ := hF
      cases hq
      exact en1


@[reducible] noncomputable def c_river_validCurve_2 : Con := conF F_river_validCurve_2 (fun x => match x with | (a0) => [(V.agg (eTRateRow a0))]) (fun r => (V.v (.bool (r))))
theorem h_river_validCurve_2 : Has Try.prog 103 c_river_validCurve_2 := by
  refine hasF (ctx_cons h_numbers_Within ctx_nil) mix Try.func103 rfl (by kernel_rfl) ?_
  rintro a0 r hF
  refine ⟨of_decide_eq_true rfl, ?_⟩
  refine st1 ?_
  obtain ⟨_, h, hF⟩ := e_bind hF
  (first | refine g_call h lv1 ?_ | refine g_callT h lv1 ?_)
  (conv => arg 1; whnf)
  refine st1 ?_
  rcases e_bif hF with ⟨hb, hF⟩ | ⟨hb, hF⟩ <;> rw [hb]
  · refine st1 ?_
    obtain ⟨_, h, hF⟩ := e_bind hF
    (first | refine g_call h lv1 ?_ | refine g_callT h lv1 ?_)
    (conv => arg 1; whnf)
    refine st1 ?_
    have hq : some _ = some _ := hF
    cases hq
    exact en1
  · refine st1 ?_
    have hq : some _ = some _ := hF
    cases hq
    exact en1


@[reducible] noncomputable def c_river_validCurve : Con := conF F_river_validCurve (fun x => match x with | (a0) => [(V.sl (recs eTRateRow (a0)) (a0).length)]) (fun r => (V.v (.bool (r))))
theorem h_river_validCurve : Has Try.prog 90 c_river_validCurve := by
  refine hasF (ctx_cons (h_numbers_Every_RateRow (ctx_cons h_river_validCurve_2 ctx_nil)) (ctx_cons h_river_validCurve_1 (ctx_cons h_numbers_Within ctx_nil))) mix Try.func90 rfl (by kernel_rfl) ?_
  rintro a0 r hF
  refine ⟨of_decide_eq_true rfl, ?_⟩
  refine st1 ?_
  obtain ⟨_, h, hF⟩ := e_bind hF
  (first | refine g_call h lv1 ?_ | refine g_callT h lv1 ?_)
  (conv => arg 1; whnf)
  refine st1 ?_
  rcases e_bif hF with ⟨hb, hF⟩ | ⟨hb, hF⟩ <;> rw [hb]
  · refine st1 ?_
    have hq : some _ = some _ := hF
    cases hq
    exact en1
  · refine st1 ?_
    refine st_loopF (e_assoc hF) () [] ⟨sT, sS, by rfl, by rfl⟩ ?_
    · rintro n _ _ x hx1 hF
      (conv => arg 7; whnf); (conv => arg 8; whnf); (conv => arg 9; whnf)
      refine st1 ?_
      rcases e_bif hF with ⟨hb, hF⟩ | ⟨hb, hF⟩ <;> rw [hb]
      · refine st1 ?_
        obtain ⟨_, h, hF⟩ := e_bind hF
        (first | refine o_ia (enc := eTRateRow) (s := 2) h (fun _ => rfl) (by decide) ?_ | refine o_iaT (enc := eTRateRow) (s := 2) h (fun _ => rfl) (by decide) ?_)
        intro _
        refine st1 ?_
        obtain ⟨_, h, hF⟩ := e_bind hF
        (first | refine o_ia (enc := eTRateRow) (s := 2) h (fun _ => rfl) (by decide) ?_ | refine o_iaT (enc := eTRateRow) (s := 2) h (fun _ => rfl) (by decide) ?_)
        intro _
        refine st1 ?_
        obtain ⟨_, h, hF⟩ := e_bind hF
        (first | refine g_call h lv1 ?_ | refine g_callT h lv1 ?_)
        (conv => arg 1; whnf)
        refine st1 ?_
        rcases e_bif hF with ⟨hb, hF⟩ | ⟨hb, hF⟩ <;> rw [hb]
        · refine st1 ?_
          have hF := e_some hF
          have hq : some _ = some _ := hF
          cases hq
          exact en1
        · refine st1 ?_
          exact k_loopF (e_some hF) hx1 () [] ⟨sT, sS, by rfl, by rfl⟩
      · refine st1 ?_
        have hF := e_some hF
        obtain ⟨_, h, hF⟩ := e_bind hF
        (first | refine g_hcall h lv1 (callable_conF rfl rfl (fun _ => rfl)) ?_ | refine g_hcallT h lv1 (callable_conF rfl rfl (fun _ => rfl)) ?_)
        (conv => arg 1; whnf)
        refine st1 ?_
        have hq : some _ = some _ := hF
        cases hq
        exact en1


@[reducible] noncomputable def c_river_validReach : Con := conF F_river_validReach (fun x => match x with | (a0) => [(V.agg (eTReach a0))]) (fun r => (V.v (.bool (r))))
theorem h_river_validReach : Has Try.prog 59 c_river_validReach := by
  refine hasF (ctx_cons h_river_validCurve (ctx_cons h_numbers_Valid (ctx_cons h_numbers_Within ctx_nil))) mix Try.func59 rfl (by kernel_rfl) ?_
  rintro a0 r hF
  refine ⟨of_decide_eq_true rfl, ?_⟩
  refine st1 ?_
  obtain ⟨_, h, hF⟩ := e_bind hF
  (first | refine g_call h lv1 ?_ | refine g_callT h lv1 ?_)
  (conv => arg 1; whnf)
  refine st1 ?_
  rcases e_bif hF with ⟨hb, hF⟩ | ⟨hb, hF⟩ <;> rw [hb]
  · refine st1 ?_
    obtain ⟨_, h, hF⟩ := e_bind hF
    (first | refine g_call h lv1 ?_ | refine g_callT h lv1 ?_)
    (conv => arg 1; whnf)
    refine st1 ?_
    rcases e_bif hF with ⟨hb, hF⟩ | ⟨hb, hF⟩ <;> rw [hb]
    · refine st1 ?_
      obtain ⟨_, h, hF⟩ := e_bind hF
      (first | refine g_call h lv1 ?_ | refine g_callT h lv1 ?_)
      (conv => arg 1; whnf)
      refine st1 ?_
      rcases e_bif hF with ⟨hb, hF⟩ | ⟨hb, hF⟩ <;> rw [hb]
      · refine st1 ?_
        obtain ⟨_, h, hF⟩ := e_bind hF
        (first | refine g_call h lv1 ?_ | refine g_callT h lv1 ?_)
        (conv => arg 1; whnf)
        refine st1 ?_
        rcases e_bif hF with ⟨hb, hF⟩ | ⟨hb, hF⟩ <;> rw [hb]
        · refine st1 ?_
          obtain ⟨_, h, hF⟩ := e_bind hF
          (first | refine g_call h lv1 ?_ | refine g_callT h lv1 ?_)
          (conv => arg 1; whnf)
          refine st1 ?_
          rcases e_bif hF with ⟨hb, hF⟩ | ⟨hb, hF⟩ <;> rw [hb]
          · refine st1 ?_
            obtain ⟨_, h, hF⟩ := e_bind hF
            (first | refine g_call h lv1 ?_ | refine g_callT h lv1 ?_)
            (conv => arg 1; whnf)
            refine st1 ?_
            have hq : some _ = some _ := hF
            cases hq
            exact en1
          · refine st1 ?_
            have hq : some _ = some _ := hF
            cases hq
            exact en1
        · refine st1 ?_
          have hq : some _ = some _ := hF
          cases hq
          exact en1
      · refine st1 ?_
        have hq : some _ = some _ := hF
        cases hq
        exact en1
    · refine st1 ?_
      have hq : some _ = some _ := hF
      cases hq
      exact en1
  · refine st1 ?_
    have hq : some _ = some _ := hF
    cases hq
    exact en1


@[reducible] noncomputable def c_numbers_Every_Shoal (C : FuncId → Option Con) : Con := conK F_numbers_Every_Shoal (fun x => match x with | (a0, a1, g, caps) => [(V.sl (recs eTShoal (a0)) (a0).length), (V.fn g caps)]) (fun x => match x with | (a0, a1, g, caps) => Callable (ext C []) g caps (fun x => match x with | (q0) => [(V.agg (eTShoal q0))]) (fun r => (V.v (.bool (r)))) a1) (fun r => (V.v (.bool (r))))
theorem h_numbers_Every_Shoal {C : FuncId → Option Con} (hC : CtxOK Try.prog C) : Has Try.prog 60 (c_numbers_Every_Shoal C) := by
  refine hasK (ext_nil hC) mix Try.func60 rfl (by kernel_rfl) ?_
  rintro ⟨a0, a1, g, caps⟩ r hcl hF
  obtain ⟨hcaps, c, hc, hce, hcall⟩ := id hcl
  refine ⟨of_decide_eq_true rfl, ?_⟩
  refine st1 ?_
  refine st_loopF (e_assoc hF) () [] ⟨sT, sS, by rfl, by rfl⟩ ?_
  · rintro n _ _ x hx1 hF
    (conv => arg 7; whnf); (conv => arg 8; whnf); (conv => arg 9; whnf)
    refine st1 ?_
    rcases e_bif hF with ⟨hb, hF⟩ | ⟨hb, hF⟩ <;> rw [hb]
    · refine st1 ?_
      obtain ⟨_, h, hF⟩ := e_bind hF
      (first | refine o_ia (enc := eTShoal) (s := 6) h (fun _ => rfl) (by decide) ?_ | refine o_iaT (enc := eTShoal) (s := 6) h (fun _ => rfl) (by decide) ?_)
      intro _
      refine st1 ?_
      obtain ⟨_, h, hF⟩ := e_bind hF
      rw [hc]
      (conv => arg 1; whnf)
      rw [hce]
      (conv => arg 1; whnf)
      (first | refine go_map hcaps rfl ?_ | refine goT_map hcaps rfl ?_)
      (conv => arg 1; whnf)
      obtain ⟨z, hz1, hz2, hz3⟩ := hcall _ _ h
      (first | refine go_exi z ⟨levs_eq hz1.symm, hz2⟩ ?_ | refine goT_exi z ⟨levs_eq hz1.symm, hz2⟩ ?_)
      rw [hz3]
      (conv => arg 1; whnf)
      refine st1 ?_
      rcases e_bif hF with ⟨hb, hF⟩ | ⟨hb, hF⟩ <;> rw [hb]
      · refine st1 ?_
        have hF := e_some hF
        have hq : some _ = some _ := hF
        cases hq
        exact en1
      · refine st1 ?_
        exact k_loopF (e_some hF) hx1 () [] ⟨sT, sS, by rfl, by rfl⟩
    · refine st1 ?_
      have hF := e_some hF
      have hq : some _ = some _ := hF
      cases hq
      exact en1


@[reducible] noncomputable def c_river_find : Con := conF F_river_find (fun x => match x with | (a0, a1) => [(V.agg (eTRiver a0)), (V.v (.int .i64 (a1)))]) (fun r => V.tup [(V.agg (eTriver_site r.1)), (V.v (.bool (r.2)))])
theorem h_river_find : Has Try.prog 77 c_river_find := by
  refine hasF ctx_nil mix Try.func77 rfl (by kernel_rfl) ?_
  rintro ⟨a0, a1⟩ r hF
  refine ⟨of_decide_eq_true rfl, ?_⟩
  refine st1 ?_
  refine st_loopF (e_assoc hF) () [(0, _), (1, _)] ⟨sT, sS, by rfl, by rfl⟩ ?_
  · rintro n ⟨_, _⟩ _ x hx1 hF
    (conv => arg 7; whnf); (conv => arg 8; whnf); (conv => arg 9; whnf)
    refine st1 ?_
    rcases e_bif hF with ⟨hb, hF⟩ | ⟨hb, hF⟩ <;> rw [hb]
    · refine st1 ?_
      obtain ⟨_, h, hF⟩ := e_bind hF
      (first | refine o_ia (enc := eTReach) (s := 9) h (fun _ => rfl) (by decide) ?_ | refine o_iaT (enc := eTReach) (s := 9) h (fun _ => rfl) (by decide) ?_)
      intro _
      refine st1 ?_
      rcases e_bif hF with ⟨hb, hF⟩ | ⟨hb, hF⟩ <;> rw [hb]
      · refine st1 ?_
        rcases e_bif hF with ⟨hb, hF⟩ | ⟨hb, hF⟩ <;> rw [hb]
        · refine st1 ?_
          have hF := e_some hF
          have hq : some _ = some _ := hF
          cases hq
          exact en1
        · refine st1 ?_
          exact k_loopF (e_some hF) hx1 () [(0, _), (1, _)] ⟨sT, sS, by rfl, by rfl⟩
      · refine st1 ?_
        exact k_loopF (e_some hF) hx1 () [(0, _), (1, _)] ⟨sT, sS, by rfl, by rfl⟩
    · refine st1 ?_
      have hF := e_some hF
      have hq : some _ = some _ := hF
      cases hq
      exact en1


@[reducible] noncomputable def c_river_validShoal : Con := conF F_river_validShoal (fun x => match x with | (a0, a1) => [(V.agg (eTRiver a0)), (V.agg (eTShoal a1))]) (fun r => (V.v (.bool (r))))
theorem h_river_validShoal : Has Try.prog 62 c_river_validShoal := by
  refine hasF (ctx_cons h_river_find (ctx_cons h_numbers_Valid (ctx_cons h_numbers_Within ctx_nil))) mix Try.func62 rfl (by kernel_rfl) ?_
  rintro ⟨a0, a1⟩ r hF
  refine ⟨of_decide_eq_true rfl, ?_⟩
  refine st1 ?_
  obtain ⟨_, h, hF⟩ := e_bind hF
  (first | refine g_call h lv1 ?_ | refine g_callT h lv1 ?_)
  (conv => arg 1; whnf)
  refine st1 ?_
  rcases e_bif hF with ⟨hb, hF⟩ | ⟨hb, hF⟩ <;> rw [hb]
  · refine st1 ?_
    obtain ⟨_, h, hF⟩ := e_bind hF
    (first | refine g_call h lv1 ?_ | refine g_callT h lv1 ?_)
    (conv => arg 1; whnf)
    refine st1 ?_
    rcases e_bif hF with ⟨hb, hF⟩ | ⟨hb, hF⟩ <;> rw [hb]
    · refine st1 ?_
      obtain ⟨_, h, hF⟩ := e_bind hF
      (first | refine g_call h lv1 ?_ | refine g_callT h lv1 ?_)
      (conv => arg 1; whnf)
      refine st1 ?_
      rcases e_bif hF with ⟨hb, hF⟩ | ⟨hb, hF⟩ <;> rw [hb]
      · refine st1 ?_
        obtain ⟨_, h, hF⟩ := e_bind hF
        (first | refine g_call h lv1 ?_ | refine g_callT h lv1 ?_)
        (conv => arg 1; whnf)
        refine st1 ?_
        have hq : some _ = some _ := hF
        cases hq
        exact en1
      · refine st1 ?_
        have hq : some _ = some _ := hF
        cases hq
        exact en1
    · refine st1 ?_
      have hq : some _ = some _ := hF
      cases hq
      exact en1
  · refine st1 ?_
    have hq : some _ = some _ := hF
    cases hq
    exact en1


@[reducible] noncomputable def c_river_Check_1 : Con := conF F_river_Check_1 (fun x => match x with | (a0, c0) => [(V.agg (eTShoal a0)), (V.fptr [(V.sl (recs eTReach (c0.Reaches)) (c0.Reaches).length), (V.sl (recs eTShoal (c0.Shoals)) (c0.Shoals).length)])]) (fun r => (V.v (.bool (r))))
theorem h_river_Check_1 : Has Try.prog 61 c_river_Check_1 := by
  refine hasF (ctx_cons h_river_validShoal ctx_nil) mix Try.func61 rfl (by kernel_rfl) ?_
  rintro ⟨a0, c0⟩ r hF
  refine ⟨of_decide_eq_true rfl, ?_⟩
  refine st1 ?_
  obtain ⟨_, h, hF⟩ := e_bind hF
  (first | refine g_call h lv1 ?_ | refine g_callT h lv1 ?_)
  (conv => arg 1; whnf)
  refine st1 ?_
  have hq : some _ = some _ := hF
  cases hq
  exact en1


@[reducible] noncomputable def c_river_Check : Con := conF F_river_Check (fun x => match x with | (a0) => [(V.agg (eTRiver a0))]) (fun r => (V.v (.int .i64 (r))))
theorem h_river_Check : Has Try.prog 19 c_river_Check := by
  refine hasF (ctx_cons (h_numbers_Every_Shoal (ctx_cons h_river_Check_1 ctx_nil)) (ctx_cons (h_numbers_Every_Reach (ctx_cons h_river_validReach ctx_nil)) (ctx_cons h_numbers_Within ctx_nil))) mix Try.func19 rfl (by kernel_rfl) ?_
  rintro a0 r hF
  refine ⟨of_decide_eq_true rfl, ?_⟩
  refine st1 ?_
  obtain ⟨_, h, hF⟩ := e_bind hF
  (first | refine g_call h lv1 ?_ | refine g_callT h lv1 ?_)
  (conv => arg 1; whnf)
  refine st1 ?_
  rcases e_bif hF with ⟨hb, hF⟩ | ⟨hb, hF⟩ <;> rw [hb]
  · refine st1 ?_
    have hq : some _ = some _ := hF
    cases hq
    exact en1
  · refine st1 ?_
    obtain ⟨_, h, hF⟩ := e_bind hF
    (first | refine g_hcall h lv1 (callable_conF rfl rfl (fun _ => rfl)) ?_ | refine g_hcallT h lv1 (callable_conF rfl rfl (fun _ => rfl)) ?_)
    (conv => arg 1; whnf)
    refine st1 ?_
    rcases e_bif hF with ⟨hb, hF⟩ | ⟨hb, hF⟩ <;> rw [hb]
    · refine st1 ?_
      have hq : some _ = some _ := hF
      cases hq
      exact en1
    · refine st1 ?_
      rcases e_bif hF with ⟨hb, hF⟩ | ⟨hb, hF⟩ <;> rw [hb]
      · refine st1 ?_
        have hq : some _ = some _ := hF
        cases hq
        exact en1
      · refine st1 ?_
        obtain ⟨_, h, hF⟩ := e_bind hF
        (first | refine g_hcall h lv1 (callable_conF rfl rfl (fun _ => rfl)) ?_ | refine g_hcallT h lv1 (callable_conF rfl rfl (fun _ => rfl)) ?_)
        (conv => arg 1; whnf)
        refine st1 ?_
        rcases e_bif hF with ⟨hb, hF⟩ | ⟨hb, hF⟩ <;> rw [hb]
        · refine st1 ?_
          have hq : some _ = some _ := hF
          cases hq
          exact en1
        · refine st1 ?_
          have hq : some _ = some _ := hF
          cases hq
          exact en1


@[reducible] noncomputable def c_thalwegref01_In : Con := conF F_thalwegref01_In (fun x => match x with | (a0, a1, a2) => [(V.v (.int .i64 (a0))), (V.v (.int .i64 (a1))), (V.v (.int .i64 (a2)))]) (fun r => (V.v (.bool (r))))
theorem h_thalwegref01_In : Has Try.prog 37 c_thalwegref01_In := by
  refine hasF ctx_nil mix Try.func37 rfl (by kernel_rfl) ?_
  rintro ⟨a0, a1, a2⟩ r hF
  refine ⟨of_decide_eq_true rfl, ?_⟩
  refine st1 ?_
  rcases e_bif hF with ⟨hb, hF⟩ | ⟨hb, hF⟩ <;> rw [hb]
  · refine st1 ?_
    have hq : some _ = some _ := hF
    cases hq
    exact en1
  · refine st1 ?_
    have hq : some _ = some _ := hF
    cases hq
    exact en1


@[reducible] noncomputable def c_thalwegref01_Valid : Con := conF F_thalwegref01_Valid (fun x => match x with | (a0, a1, a2) => [(V.agg (eTBounds a0)), (V.v (.int .i64 (a1))), (V.v (.int .i64 (a2)))]) (fun r => (V.v (.bool (r))))
theorem h_thalwegref01_Valid : Has Try.prog 24 c_thalwegref01_Valid := by
  refine hasF (ctx_cons h_thalwegref01_In ctx_nil) mix Try.func24 rfl (by kernel_rfl) ?_
  rintro ⟨a0, a1, a2⟩ r hF
  refine ⟨of_decide_eq_true rfl, ?_⟩
  refine st1 ?_
  obtain ⟨_, h, hF⟩ := e_bind hF
  (first | refine g_call h lv1 ?_ | refine g_callT h lv1 ?_)
  (conv => arg 1; whnf)
  refine st1 ?_
  rcases e_bif hF with ⟨hb, hF⟩ | ⟨hb, hF⟩ <;> rw [hb]
  · refine st1 ?_
    obtain ⟨_, h, hF⟩ := e_bind hF
    (first | refine g_call h lv1 ?_ | refine g_callT h lv1 ?_)
    (conv => arg 1; whnf)
    refine st1 ?_
    have hq : some _ = some _ := hF
    cases hq
    exact en1
  · refine st1 ?_
    have hq : some _ = some _ := hF
    cases hq
    exact en1


@[reducible] noncomputable def c_thalwegref01_Reach : Con := conF F_thalwegref01_Reach (fun x => match x with | (a0) => [(V.agg (eTReach a0))]) (fun r => (V.v (.bool (r))))
theorem h_thalwegref01_Reach : Has Try.prog 23 c_thalwegref01_Reach := by
  refine hasF (ctx_cons h_thalwegref01_In (ctx_cons h_thalwegref01_Valid ctx_nil)) mix Try.func23 rfl (by kernel_rfl) ?_
  rintro a0 r hF
  refine ⟨of_decide_eq_true rfl, ?_⟩
  refine st1 ?_
  obtain ⟨_, h, hF⟩ := e_bind hF
  (first | refine g_call h lv1 ?_ | refine g_callT h lv1 ?_)
  (conv => arg 1; whnf)
  refine st1 ?_
  rcases e_bif hF with ⟨hb, hF⟩ | ⟨hb, hF⟩ <;> rw [hb]
  · refine st1 ?_
    have hq : some _ = some _ := hF
    cases hq
    exact en1
  · refine st1 ?_
    obtain ⟨_, h, hF⟩ := e_bind hF
    (first | refine g_call h lv1 ?_ | refine g_callT h lv1 ?_)
    (conv => arg 1; whnf)
    refine st1 ?_
    rcases e_bif hF with ⟨hb, hF⟩ | ⟨hb, hF⟩ <;> rw [hb]
    · refine st1 ?_
      have hq : some _ = some _ := hF
      cases hq
      exact en1
    · refine st1 ?_
      obtain ⟨_, h, hF⟩ := e_bind hF
      (first | refine g_call h lv1 ?_ | refine g_callT h lv1 ?_)
      (conv => arg 1; whnf)
      refine st1 ?_
      rcases e_bif hF with ⟨hb, hF⟩ | ⟨hb, hF⟩ <;> rw [hb]
      · refine st1 ?_
        have hq : some _ = some _ := hF
        cases hq
        exact en1
      · refine st1 ?_
        obtain ⟨_, h, hF⟩ := e_bind hF
        (first | refine g_call h lv1 ?_ | refine g_callT h lv1 ?_)
        (conv => arg 1; whnf)
        refine st1 ?_
        rcases e_bif hF with ⟨hb, hF⟩ | ⟨hb, hF⟩ <;> rw [hb]
        · refine st1 ?_
          have hq : some _ = some _ := hF
          cases hq
          exact en1
        · refine st1 ?_
          obtain ⟨_, h, hF⟩ := e_bind hF
          (first | refine g_call h lv1 ?_ | refine g_callT h lv1 ?_)
          (conv => arg 1; whnf)
          refine st1 ?_
          rcases e_bif hF with ⟨hb, hF⟩ | ⟨hb, hF⟩ <;> rw [hb]
          · refine st1 ?_
            have hq : some _ = some _ := hF
            cases hq
            exact en1
          · refine st1 ?_
            obtain ⟨_, h, hF⟩ := e_bind hF
            (first | refine g_call h lv1 ?_ | refine g_callT h lv1 ?_)
            (conv => arg 1; whnf)
            refine st1 ?_
            rcases e_bif hF with ⟨hb, hF⟩ | ⟨hb, hF⟩ <;> rw [hb]
            · refine st1 ?_
              have hq : some _ = some _ := hF
              cases hq
              exact en1
            · refine st1 ?_
              obtain ⟨_, h, hF⟩ := e_bind hF
              (first | refine g_call h lv1 ?_ | refine g_callT h lv1 ?_)
              (conv => arg 1; whnf)
              refine st1 ?_
              rcases e_bif hF with ⟨hb, hF⟩ | ⟨hb, hF⟩ <;> rw [hb]
              · refine st1 ?_
                have hq : some _ = some _ := hF
                cases hq
                exact en1
              · refine st1 ?_
                refine st_loopF (e_assoc hF) () [(0, _)] ⟨sT, sS, by rfl, by rfl⟩ ?_
                · rintro n _ _ x hx1 hF
                  (conv => arg 7; whnf); (conv => arg 8; whnf); (conv => arg 9; whnf)
                  refine st1 ?_
                  rcases e_bif hF with ⟨hb, hF⟩ | ⟨hb, hF⟩ <;> rw [hb]
                  · refine st1 ?_
                    obtain ⟨_, h, hF⟩ := e_bind hF
                    (first | refine o_ia (enc := eTRateRow) (s := 2) h (fun _ => rfl) (by decide) ?_ | refine o_iaT (enc := eTRateRow) (s := 2) h (fun _ => rfl) (by decide) ?_)
                    intro _
                    refine st1 ?_
                    obtain ⟨_, h, hF⟩ := e_bind hF
                    (first | refine g_call h lv1 ?_ | refine g_callT h lv1 ?_)
                    (conv => arg 1; whnf)
                    refine st1 ?_
                    rcases e_bif hF with ⟨hb, hF⟩ | ⟨hb, hF⟩ <;> rw [hb]
                    · refine st1 ?_
                      have hF := e_some hF
                      have hq : some _ = some _ := hF
                      cases hq
                      exact en1
                    · refine st1 ?_
                      obtain ⟨_, h, hF⟩ := e_bind hF
                      (first | refine o_ia (enc := eTRateRow) (s := 2) h (fun _ => rfl) (by decide) ?_ | refine o_iaT (enc := eTRateRow) (s := 2) h (fun _ => rfl) (by decide) ?_)
                      intro _
                      refine st1 ?_
                      obtain ⟨_, h, hF⟩ := e_bind hF
                      (first | refine g_call h lv1 ?_ | refine g_callT h lv1 ?_)
                      (conv => arg 1; whnf)
                      refine st1 ?_
                      rcases e_bif hF with ⟨hb, hF⟩ | ⟨hb, hF⟩ <;> rw [hb]
                      · refine st1 ?_
                        have hF := e_some hF
                        have hq : some _ = some _ := hF
                        cases hq
                        exact en1
                      · refine st1 ?_
                        rcases e_bif hF with ⟨hb, hF⟩ | ⟨hb, hF⟩ <;> rw [hb]
                        · refine st1 ?_
                          obtain ⟨_, h, hF⟩ := e_bind hF
                          (first | refine o_ia (enc := eTRateRow) (s := 2) h (fun _ => rfl) (by decide) ?_ | refine o_iaT (enc := eTRateRow) (s := 2) h (fun _ => rfl) (by decide) ?_)
                          intro _
                          refine st1 ?_
                          obtain ⟨_, h, hF⟩ := e_bind hF
                          (first | refine o_ia (enc := eTRateRow) (s := 2) h (fun _ => rfl) (by decide) ?_ | refine o_iaT (enc := eTRateRow) (s := 2) h (fun _ => rfl) (by decide) ?_)
                          intro _
                          refine st1 ?_
                          rcases e_bif hF with ⟨hb, hF⟩ | ⟨hb, hF⟩ <;> rw [hb]
                          · refine st1 ?_
                            have hF := e_some hF
                            have hq : some _ = some _ := hF
                            cases hq
                            exact en1
                          · refine st1 ?_
                            obtain ⟨_, h, hF⟩ := e_bind hF
                            (first | refine o_ia (enc := eTRateRow) (s := 2) h (fun _ => rfl) (by decide) ?_ | refine o_iaT (enc := eTRateRow) (s := 2) h (fun _ => rfl) (by decide) ?_)
                            intro _
                            refine st1 ?_
                            obtain ⟨_, h, hF⟩ := e_bind hF
                            (first | refine o_ia (enc := eTRateRow) (s := 2) h (fun _ => rfl) (by decide) ?_ | refine o_iaT (enc := eTRateRow) (s := 2) h (fun _ => rfl) (by decide) ?_)
                            intro _
                            refine st1 ?_
                            rcases e_bif hF with ⟨hb, hF⟩ | ⟨hb, hF⟩ <;> rw [hb]
                            · refine st1 ?_
                              have hF := e_some hF
                              have hq : some _ = some _ := hF
                              cases hq
                              exact en1
                            · refine st1 ?_
                              exact k_loopF (e_some hF) hx1 () [(0, _)] ⟨sT, sS, by rfl, by rfl⟩
                        · refine st1 ?_
                          exact k_loopF (e_some hF) hx1 () [(0, _)] ⟨sT, sS, by rfl, by rfl⟩
                  · refine st1 ?_
                    have hF := e_some hF
                    have hq : some _ = some _ := hF
                    cases hq
                    exact en1


@[reducible] noncomputable def c_thalwegref01_Places : Con := conF F_thalwegref01_Places (fun x => match x with | (a0) => [(V.agg (eTRiver a0))]) (fun r => (V.v (.int .i64 (r))))
theorem h_thalwegref01_Places : Has Try.prog 41 c_thalwegref01_Places := by
  refine hasF ctx_nil mix Try.func41 rfl (by kernel_rfl) ?_
  rintro a0 r hF
  refine ⟨of_decide_eq_true rfl, ?_⟩
  refine st1 ?_
  refine st_loopF (e_assoc hF) () [(0, _)] ⟨sT, sS, by rfl, by rfl⟩ ?_
  · rintro n ⟨_, _⟩ _ x hx1 hF
    (conv => arg 7; whnf); (conv => arg 8; whnf); (conv => arg 9; whnf)
    refine st1 ?_
    rcases e_bif hF with ⟨hb, hF⟩ | ⟨hb, hF⟩ <;> rw [hb]
    · refine st1 ?_
      obtain ⟨_, h, hF⟩ := e_bind hF
      (first | refine o_ia (enc := eTReach) (s := 9) h (fun _ => rfl) (by decide) ?_ | refine o_iaT (enc := eTReach) (s := 9) h (fun _ => rfl) (by decide) ?_)
      intro _
      refine st1 ?_
      exact k_loopF (e_some hF) hx1 () [(0, _)] ⟨sT, sS, by rfl, by rfl⟩
    · refine st1 ?_
      have hF := e_some hF
      have hq : some _ = some _ := hF
      cases hq
      exact en1


@[reducible] noncomputable def c_thalwegref01_River : Con := conF F_thalwegref01_River (fun x => match x with | (a0) => [(V.agg (eTRiver a0))]) (fun r => (V.v (.bool (r))))
theorem h_thalwegref01_River : Has Try.prog 20 c_thalwegref01_River := by
  refine hasF (ctx_cons h_thalwegref01_Places (ctx_cons h_thalwegref01_In (ctx_cons h_thalwegref01_Valid (ctx_cons h_thalwegref01_Reach ctx_nil)))) mix Try.func20 rfl (by kernel_rfl) ?_
  rintro a0 r hF
  refine ⟨of_decide_eq_true rfl, ?_⟩
  refine st1 ?_
  obtain ⟨_, h, hF⟩ := e_bind hF
  (first | refine g_call h lv1 ?_ | refine g_callT h lv1 ?_)
  (conv => arg 1; whnf)
  refine st1 ?_
  rcases e_bif hF with ⟨hb, hF⟩ | ⟨hb, hF⟩ <;> rw [hb]
  · refine st1 ?_
    have hq : some _ = some _ := hF
    cases hq
    exact en1
  · refine st1 ?_
    rcases e_bif hF with ⟨hb, hF⟩ | ⟨hb, hF⟩ <;> rw [hb]
    · refine st1 ?_
      have hq : some _ = some _ := hF
      cases hq
      exact en1
    · refine st1 ?_
      refine st_loopF (e_assoc hF) () [(0, _)] ⟨sT, sS, by rfl, by rfl⟩ ?_
      · rintro n _ _ x hx1 hF
        (conv => arg 7; whnf); (conv => arg 8; whnf); (conv => arg 9; whnf)
        refine st1 ?_
        rcases e_bif hF with ⟨hb, hF⟩ | ⟨hb, hF⟩ <;> rw [hb]
        · refine st1 ?_
          obtain ⟨_, h, hF⟩ := e_bind hF
          (first | refine o_ia (enc := eTReach) (s := 9) h (fun _ => rfl) (by decide) ?_ | refine o_iaT (enc := eTReach) (s := 9) h (fun _ => rfl) (by decide) ?_)
          intro _
          refine st1 ?_
          obtain ⟨_, h, hF⟩ := e_bind hF
          (first | refine g_call h lv1 ?_ | refine g_callT h lv1 ?_)
          (conv => arg 1; whnf)
          refine st1 ?_
          rcases e_bif hF with ⟨hb, hF⟩ | ⟨hb, hF⟩ <;> rw [hb]
          · refine st1 ?_
            have hF := e_some hF
            have hq : some _ = some _ := hF
            cases hq
            exact en1
          · refine st1 ?_
            exact k_loopF (e_some hF) hx1 () [(0, _)] ⟨sT, sS, by rfl, by rfl⟩
        · refine st1 ?_
          have hF := e_some hF
          refine st_loopF (e_assoc hF) () [(0, _)] ⟨sT, sS, by rfl, by rfl⟩ ?_
          · rintro n _ _ x hx1 hF
            (conv => arg 7; whnf); (conv => arg 8; whnf); (conv => arg 9; whnf)
            refine st1 ?_
            rcases e_bif hF with ⟨hb, hF⟩ | ⟨hb, hF⟩ <;> rw [hb]
            · refine st1 ?_
              obtain ⟨_, h, hF⟩ := e_bind hF
              (first | refine o_ia (enc := eTShoal) (s := 6) h (fun _ => rfl) (by decide) ?_ | refine o_iaT (enc := eTShoal) (s := 6) h (fun _ => rfl) (by decide) ?_)
              intro _
              refine st1 ?_
              obtain ⟨_, h, hF⟩ := e_bind hF
              (first | refine g_call h lv1 ?_ | refine g_callT h lv1 ?_)
              (conv => arg 1; whnf)
              refine st1 ?_
              obtain ⟨_, h, hF⟩ := e_bind hF
              (first | refine g_call h lv1 ?_ | refine g_callT h lv1 ?_)
              (conv => arg 1; whnf)
              refine st1 ?_
              rcases e_bif hF with ⟨hb, hF⟩ | ⟨hb, hF⟩ <;> rw [hb]
              · refine st1 ?_
                have hF := e_some hF
                have hq : some _ = some _ := hF
                cases hq
                exact en1
              · refine st1 ?_
                obtain ⟨_, h, hF⟩ := e_bind hF
                (first | refine g_call h lv1 ?_ | refine g_callT h lv1 ?_)
                (conv => arg 1; whnf)
                refine st1 ?_
                rcases e_bif hF with ⟨hb, hF⟩ | ⟨hb, hF⟩ <;> rw [hb]
                · refine st1 ?_
                  have hF := e_some hF
                  have hq : some _ = some _ := hF
                  cases hq
                  exact en1
                · refine st1 ?_
                  obtain ⟨_, h, hF⟩ := e_bind hF
                  (first | refine g_call h lv1 ?_ | refine g_callT h lv1 ?_)
                  (conv => arg 1; whnf)
                  refine st1 ?_
                  rcases e_bif hF with ⟨hb, hF⟩ | ⟨hb, hF⟩ <;> rw [hb]
                  · refine st1 ?_
                    have hF := e_some hF
                    have hq : some _ = some _ := hF
                    cases hq
                    exact en1
                  · refine st1 ?_
                    obtain ⟨_, h, hF⟩ := e_bind hF
                    (first | refine g_call h lv1 ?_ | refine g_callT h lv1 ?_)
                    (conv => arg 1; whnf)
                    refine st1 ?_
                    rcases e_bif hF with ⟨hb, hF⟩ | ⟨hb, hF⟩ <;> rw [hb]
                    · refine st1 ?_
                      have hF := e_some hF
                      have hq : some _ = some _ := hF
                      cases hq
                      exact en1
                    · refine st1 ?_
                      exact k_loopF (e_some hF) hx1 () [(0, _)] ⟨sT, sS, by rfl, by rfl⟩
            · refine st1 ?_
              have hF := e_some hF
              have hq : some _ = some _ := hF
              cases hq
              exact en1


@[reducible] noncomputable def c_thalweglaw01_unchanged : Con := conF F_thalweglaw01_unchanged (fun x => match x with | (a0, a1) => [(V.agg (eTRiver a0)), (V.agg (eTRiver a1))]) (fun r => (V.v (.bool (r))))
theorem fl_thalweglaw01_unchanged_27 : flatOf Try.prog 9 27 = some [true, true] := by kernel_rfl
theorem eg_thalweglaw01_unchanged_27 : Try.prog.eqGuardType Try.prog.depth 27 = false := by kernel_rfl
theorem ag_thalweglaw01_unchanged_27 : aggOf Try.prog 27 = some true := by kernel_rfl
theorem fl_thalweglaw01_unchanged_102 : flatOf Try.prog 9 102 = some [true, true, true, true, true, true] := by kernel_rfl
theorem eg_thalweglaw01_unchanged_102 : Try.prog.eqGuardType Try.prog.depth 102 = false := by kernel_rfl
theorem ag_thalweglaw01_unchanged_102 : aggOf Try.prog 102 = some true := by kernel_rfl
theorem fl_thalweglaw01_unchanged_120 : flatOf Try.prog 9 120 = some [true, true] := by kernel_rfl
theorem eg_thalweglaw01_unchanged_120 : Try.prog.eqGuardType Try.prog.depth 120 = false := by kernel_rfl
theorem ag_thalweglaw01_unchanged_120 : aggOf Try.prog 120 = some true := by kernel_rfl
theorem h_thalweglaw01_unchanged : Has Try.prog 21 c_thalweglaw01_unchanged := by
  refine hasF ctx_nil mix Try.func21 rfl (by kernel_rfl) ?_
  rintro ⟨a0, a1⟩ r hF
  refine ⟨of_decide_eq_true rfl, ?_⟩
  refine st1 ?_
  rcases e_bif hF with ⟨hb, hF⟩ | ⟨hb, hF⟩ <;> rw [hb]
  · refine st1 ?_
    have hq : some _ = some _ := hF
    cases hq
    exact en1
  · refine st1 ?_
    rcases e_bif hF with ⟨hb, hF⟩ | ⟨hb, hF⟩ <;> rw [hb]
    · refine st1 ?_
      have hq : some _ = some _ := hF
      cases hq
      exact en1
    · refine st1 ?_
      refine st_loopF (e_assoc hF) () [(0, _), (1, _)] ⟨sT, sS, by rfl, by rfl⟩ ?_
      · rintro n _ _ x hx1 hF
        (conv => arg 7; whnf); (conv => arg 8; whnf); (conv => arg 9; whnf)
        refine st1 ?_
        rcases e_bif hF with ⟨hb, hF⟩ | ⟨hb, hF⟩ <;> rw [hb]
        · refine st1 ?_
          obtain ⟨_, h, hF⟩ := e_bind hF
          (first | refine o_ia (enc := eTReach) (s := 9) h (fun _ => rfl) (by decide) ?_ | refine o_iaT (enc := eTReach) (s := 9) h (fun _ => rfl) (by decide) ?_)
          intro _
          refine st1 ?_
          obtain ⟨_, h, hF⟩ := e_bind hF
          (first | refine o_ia (enc := eTReach) (s := 9) h (fun _ => rfl) (by decide) ?_ | refine o_iaT (enc := eTReach) (s := 9) h (fun _ => rfl) (by decide) ?_)
          intro _
          refine st1 ?_
          rcases e_bif hF with ⟨hb, hF⟩ | ⟨hb, hF⟩ <;> rw [hb]
          · refine st1 ?_
            have hF := e_some hF
            have hq : some _ = some _ := hF
            cases hq
            exact en1
          · refine st1 ?_
            rcases e_bif hF with ⟨hb, hF⟩ | ⟨hb, hF⟩ <;> rw [hb]
            · refine st1 ?_
              have hF := e_some hF
              have hq : some _ = some _ := hF
              cases hq
              exact en1
            · refine st1 ?_
              rw [fl_thalweglaw01_unchanged_27, eg_thalweglaw01_unchanged_27, ag_thalweglaw01_unchanged_27]
              (conv => arg 1; whnf)
              refine st1 ?_
              rcases e_bif hF with ⟨hb, hF⟩ | ⟨hb, hF⟩ <;> rw [hb]
              · refine st1 ?_
                have hF := e_some hF
                have hq : some _ = some _ := hF
                cases hq
                exact en1
              · refine st1 ?_
                rcases e_bif hF with ⟨hb, hF⟩ | ⟨hb, hF⟩ <;> rw [hb]
                · refine st1 ?_
                  have hF := e_some hF
                  have hq : some _ = some _ := hF
                  cases hq
                  exact en1
                · refine st1 ?_
                  rw [fl_thalweglaw01_unchanged_27, eg_thalweglaw01_unchanged_27, ag_thalweglaw01_unchanged_27]
                  (conv => arg 1; whnf)
                  refine st1 ?_
                  rcases e_bif hF with ⟨hb, hF⟩ | ⟨hb, hF⟩ <;> rw [hb]
                  · refine st1 ?_
                    have hF := e_some hF
                    have hq : some _ = some _ := hF
                    cases hq
                    exact en1
                  · refine st1 ?_
                    rcases e_bif hF with ⟨hb, hF⟩ | ⟨hb, hF⟩ <;> rw [hb]
                    · refine st1 ?_
                      have hF := e_some hF
                      have hq : some _ = some _ := hF
                      cases hq
                      exact en1
                    · refine st1 ?_
                      rcases e_bif hF with ⟨hb, hF⟩ | ⟨hb, hF⟩ <;> rw [hb]
                      · refine st1 ?_
                        have hF := e_some hF
                        have hq : some _ = some _ := hF
                        cases hq
                        exact en1
                      · refine st1 ?_
                        refine st_loopF (e_assoc hF) () [(0, _), (1, _), (17, _), (18, _)] ⟨sT, sS, by rfl, by rfl⟩ ?_
                        · rintro n _ _ x hx2 hF
                          (conv => arg 7; whnf); (conv => arg 8; whnf); (conv => arg 9; whnf)
                          refine st1 ?_
                          rcases e_bif hF with ⟨hb, hF⟩ | ⟨hb, hF⟩ <;> rw [hb]
                          · refine st1 ?_
                            obtain ⟨_, h, hF⟩ := e_bind hF
                            (first | refine o_ia (enc := eTRateRow) (s := 2) h (fun _ => rfl) (by decide) ?_ | refine o_iaT (enc := eTRateRow) (s := 2) h (fun _ => rfl) (by decide) ?_)
                            intro _
                            refine st1 ?_
                            obtain ⟨_, h, hF⟩ := e_bind hF
                            (first | refine o_ia (enc := eTRateRow) (s := 2) h (fun _ => rfl) (by decide) ?_ | refine o_iaT (enc := eTRateRow) (s := 2) h (fun _ => rfl) (by decide) ?_)
                            intro _
                            refine st1 ?_
                            rw [fl_thalweglaw01_unchanged_120, eg_thalweglaw01_unchanged_120, ag_thalweglaw01_unchanged_120]
                            (conv => arg 1; whnf)
                            refine st1 ?_
                            rcases e_bif hF with ⟨hb, hF⟩ | ⟨hb, hF⟩ <;> rw [hb]
                            · refine st1 ?_
                              have hF := e_some hF
                              have hF := e_some hF
                              have hq : some _ = some _ := hF
                              cases hq
                              exact en1
                            · refine st1 ?_
                              exact k_loopF (e_some hF) hx2 () [(0, _), (1, _), (17, _), (18, _)] ⟨sT, sS, by rfl, by rfl⟩
                          · refine st1 ?_
                            have hF := e_some hF
                            exact k_loopF (e_some hF) hx1 () [(0, _), (1, _)] ⟨sT, sS, by rfl, by rfl⟩
        · refine st1 ?_
          have hF := e_some hF
          refine st_loopF (e_assoc hF) () [(0, _), (1, _)] ⟨sT, sS, by rfl, by rfl⟩ ?_
          · rintro n _ _ x hx1 hF
            (conv => arg 7; whnf); (conv => arg 8; whnf); (conv => arg 9; whnf)
            refine st1 ?_
            rcases e_bif hF with ⟨hb, hF⟩ | ⟨hb, hF⟩ <;> rw [hb]
            · refine st1 ?_
              obtain ⟨_, h, hF⟩ := e_bind hF
              (first | refine o_ia (enc := eTShoal) (s := 6) h (fun _ => rfl) (by decide) ?_ | refine o_iaT (enc := eTShoal) (s := 6) h (fun _ => rfl) (by decide) ?_)
              intro _
              refine st1 ?_
              obtain ⟨_, h, hF⟩ := e_bind hF
              (first | refine o_ia (enc := eTShoal) (s := 6) h (fun _ => rfl) (by decide) ?_ | refine o_iaT (enc := eTShoal) (s := 6) h (fun _ => rfl) (by decide) ?_)
              intro _
              refine st1 ?_
              rw [fl_thalweglaw01_unchanged_102, eg_thalweglaw01_unchanged_102, ag_thalweglaw01_unchanged_102]
              (conv => arg 1; whnf)
              refine st1 ?_
              rcases e_bif hF with ⟨hb, hF⟩ | ⟨hb, hF⟩ <;> rw [hb]
              · refine st1 ?_
                have hF := e_some hF
                have hq : some _ = some _ := hF
                cases hq
                exact en1
              · refine st1 ?_
                exact k_loopF (e_some hF) hx1 () [(0, _), (1, _)] ⟨sT, sS, by rfl, by rfl⟩
            · refine st1 ?_
              have hF := e_some hF
              have hq : some _ = some _ := hF
              cases hq
              exact en1


@[reducible] noncomputable def c_numbers_Down : Con := conF F_numbers_Down (fun x => match x with | (a0, a1) => [(V.v (.int .i64 (a0))), (V.v (.int .i64 (a1)))]) (fun r => (V.v (.int .i64 (r))))
theorem h_numbers_Down : Has Try.prog 69 c_numbers_Down := by
  refine hasF ctx_nil mix Try.func69 rfl (by kernel_rfl) ?_
  rintro ⟨a0, a1⟩ r hF
  refine ⟨of_decide_eq_true rfl, ?_⟩
  refine st1 ?_
  obtain ⟨_, h, hF⟩ := e_bind hF
  (first | refine go_req (nz_ne h) ?_ | refine goT_req (nz_ne h) ?_)
  (conv => arg 1; whnf)
  refine st1 ?_
  rcases e_bif hF with ⟨hb, hF⟩ | ⟨hb, hF⟩ <;> rw [hb]
  · refine st1 ?_
    obtain ⟨_, h, hF⟩ := e_bind hF
    (first | refine go_req (nz_ne h) ?_ | refine goT_req (nz_ne h) ?_)
    (conv => arg 1; whnf)
    refine st1 ?_
    have hq : some _ = some _ := hF
    cases hq
    exact en1
  · refine st1 ?_
    obtain ⟨_, h, hF⟩ := e_bind hF
    (first | refine go_req (nz_ne h) ?_ | refine goT_req (nz_ne h) ?_)
    (conv => arg 1; whnf)
    refine st1 ?_
    have hq : some _ = some _ := hF
    cases hq
    exact en1


@[reducible] noncomputable def c_numbers_Up : Con := conF F_numbers_Up (fun x => match x with | (a0, a1) => [(V.v (.int .i64 (a0))), (V.v (.int .i64 (a1)))]) (fun r => (V.v (.int .i64 (r))))
theorem h_numbers_Up : Has Try.prog 70 c_numbers_Up := by
  refine hasF (ctx_cons h_numbers_Down ctx_nil) mix Try.func70 rfl (by kernel_rfl) ?_
  rintro ⟨a0, a1⟩ r hF
  refine ⟨of_decide_eq_true rfl, ?_⟩
  refine st1 ?_
  obtain ⟨_, h, hF⟩ := e_bind hF
  (first | refine g_call h lv1 ?_ | refine g_callT h lv1 ?_)
  (conv => arg 1; whnf)
  refine st1 ?_
  have hq : some _ = some _ := hF
  cases hq
  exact en1


@[reducible] noncomputable def c_slices_IndexFunc_RateRow_RateRow (C : FuncId → Option Con) : Con := conK F_slices_IndexFunc_RateRow_RateRow (fun x => match x with | (a0, a1, g, caps) => [(V.sl (recs eTRateRow (a0)) (a0).length), (V.fn g caps)]) (fun x => match x with | (a0, a1, g, caps) => Callable (ext C []) g caps (fun x => match x with | (q0) => [(V.agg (eTRateRow q0))]) (fun r => (V.v (.bool (r)))) a1) (fun r => (V.v (.int .i64 (r))))
theorem h_slices_IndexFunc_RateRow_RateRow {C : FuncId → Option Con} (hC : CtxOK Try.prog C) : Has Try.prog 104 (c_slices_IndexFunc_RateRow_RateRow C) := by
  refine hasK (ext_nil hC) mix Try.func104 rfl (by kernel_rfl) ?_
  rintro ⟨a0, a1, g, caps⟩ r hcl hF
  obtain ⟨hcaps, c, hc, hce, hcall⟩ := id hcl
  refine ⟨of_decide_eq_true rfl, ?_⟩
  refine st1 ?_
  refine st_loopF (e_assoc hF) () [] ⟨sT, sS, by rfl, by rfl⟩ ?_
  · rintro n _ _ x hx1 hF
    (conv => arg 7; whnf); (conv => arg 8; whnf); (conv => arg 9; whnf)
    refine st1 ?_
    rcases e_bif hF with ⟨hb, hF⟩ | ⟨hb, hF⟩ <;> rw [hb]
    · refine st1 ?_
      obtain ⟨_, h, hF⟩ := e_bind hF
      (first | refine o_ia (enc := eTRateRow) (s := 2) h (fun _ => rfl) (by decide) ?_ | refine o_iaT (enc := eTRateRow) (s := 2) h (fun _ => rfl) (by decide) ?_)
      intro _
      refine st1 ?_
      obtain ⟨_, h, hF⟩ := e_bind hF
      rw [hc]
      (conv => arg 1; whnf)
      rw [hce]
      (conv => arg 1; whnf)
      (first | refine go_map hcaps rfl ?_ | refine goT_map hcaps rfl ?_)
      (conv => arg 1; whnf)
      obtain ⟨z, hz1, hz2, hz3⟩ := hcall _ _ h
      (first | refine go_exi z ⟨levs_eq hz1.symm, hz2⟩ ?_ | refine goT_exi z ⟨levs_eq hz1.symm, hz2⟩ ?_)
      rw [hz3]
      (conv => arg 1; whnf)
      refine st1 ?_
      rcases e_bif hF with ⟨hb, hF⟩ | ⟨hb, hF⟩ <;> rw [hb]
      · refine st1 ?_
        have hF := e_some hF
        have hq : some _ = some _ := hF
        cases hq
        exact en1
      · refine st1 ?_
        exact k_loopF (e_some hF) hx1 () [] ⟨sT, sS, by rfl, by rfl⟩
    · refine st1 ?_
      have hF := e_some hF
      have hq : some _ = some _ := hF
      cases hq
      exact en1


@[reducible] noncomputable def c_river_curveAt_1 : Con := conF F_river_curveAt_1 (fun x => match x with | (a0, c0) => [(V.agg (eTRateRow a0)), (V.fptr [(V.v (.int .i64 (c0)))])]) (fun r => (V.v (.bool (r))))
theorem h_river_curveAt_1 : Has Try.prog 105 c_river_curveAt_1 := by
  refine hasF ctx_nil mix Try.func105 rfl (by kernel_rfl) ?_
  rintro ⟨a0, c0⟩ r hF
  refine ⟨of_decide_eq_true rfl, ?_⟩
  refine st1 ?_
  have hq : some _ = some _ := hF
  cases hq
  exact en1


@[reducible] noncomputable def c_river_curveAt (C : FuncId → Option Con) : Con := conK F_river_curveAt (fun x => match x with | (a0, a1, a2, g, caps) => [(V.sl (recs eTRateRow (a0)) (a0).length), (V.v (.int .i64 (a1))), (V.fn g caps)]) (fun x => match x with | (a0, a1, a2, g, caps) => Callable (ext C [(104, c_slices_IndexFunc_RateRow_RateRow (ctx [(105, c_river_curveAt_1)]))]) g caps (fun x => match x with | (q0, q1) => [(V.v (.int .i64 (q0))), (V.v (.int .i64 (q1)))]) (fun r => (V.v (.int .i64 (r)))) a2) (fun r => (V.v (.int .i64 (r))))
theorem h_river_curveAt {C : FuncId → Option Con} (hC : CtxOK Try.prog C) : Has Try.prog 91 (c_river_curveAt C) := by
  refine hasK (ext_cons (h_slices_IndexFunc_RateRow_RateRow (ctx_cons h_river_curveAt_1 ctx_nil)) (ext_nil hC)) mix Try.func91 rfl (by kernel_rfl) ?_
  rintro ⟨a0, a1, a2, g, caps⟩ r hcl hF
  obtain ⟨hcaps, c, hc, hce, hcall⟩ := id hcl
  refine ⟨of_decide_eq_true rfl, ?_⟩
  refine st1 ?_
  obtain ⟨_, h, hF⟩ := e_bind hF
  (first | refine g_hcall h lv1 (callable_conF rfl rfl (fun _ => rfl)) ?_ | refine g_hcallT h lv1 (callable_conF rfl rfl (fun _ => rfl)) ?_)
  (conv => arg 1; whnf)
  refine st1 ?_
  rcases e_bif hF with ⟨hb, hF⟩ | ⟨hb, hF⟩ <;> rw [hb]
  · refine st1 ?_
    obtain ⟨_, h, hF⟩ := e_bind hF
    (first | refine o_ia (enc := eTRateRow) (s := 2) h (fun _ => rfl) (by decide) ?_ | refine o_iaT (enc := eTRateRow) (s := 2) h (fun _ => rfl) (by decide) ?_)
    intro _
    refine st1 ?_
    have hq : some _ = some _ := hF
    cases hq
    exact en1
  · refine st1 ?_
    rcases e_bif hF with ⟨hb, hF⟩ | ⟨hb, hF⟩ <;> rw [hb]
    · refine st1 ?_
      obtain ⟨_, h, hF⟩ := e_bind hF
      (first | refine o_ia (enc := eTRateRow) (s := 2) h (fun _ => rfl) (by decide) ?_ | refine o_iaT (enc := eTRateRow) (s := 2) h (fun _ => rfl) (by decide) ?_)
      intro _
      refine st1 ?_
      have hq : some _ = some _ := hF
      cases hq
      exact en1
    · refine st1 ?_
      obtain ⟨_, h, hF⟩ := e_bind hF
      (first | refine o_ia (enc := eTRateRow) (s := 2) h (fun _ => rfl) (by decide) ?_ | refine o_iaT (enc := eTRateRow) (s := 2) h (fun _ => rfl) (by decide) ?_)
      intro _
      refine st1 ?_
      obtain ⟨_, h, hF⟩ := e_bind hF
      (first | refine o_ia (enc := eTRateRow) (s := 2) h (fun _ => rfl) (by decide) ?_ | refine o_iaT (enc := eTRateRow) (s := 2) h (fun _ => rfl) (by decide) ?_)
      intro _
      refine st1 ?_
      obtain ⟨_, h, hF⟩ := e_bind hF
      rw [hc]
      (conv => arg 1; whnf)
      rw [hce]
      (conv => arg 1; whnf)
      (first | refine go_map hcaps rfl ?_ | refine goT_map hcaps rfl ?_)
      (conv => arg 1; whnf)
      obtain ⟨z, hz1, hz2, hz3⟩ := hcall _ _ h
      (first | refine go_exi z ⟨levs_eq hz1.symm, hz2⟩ ?_ | refine goT_exi z ⟨levs_eq hz1.symm, hz2⟩ ?_)
      rw [hz3]
      (conv => arg 1; whnf)
      refine st1 ?_
      have hq : some _ = some _ := hF
      cases hq
      exact en1


@[reducible] noncomputable def c_river_levelAt : Con := conF F_river_levelAt (fun x => match x with | (a0, a1) => [(V.agg (eTReach a0)), (V.agg (eTBounds a1))]) (fun r => (V.agg (eTBounds r)))
theorem h_river_levelAt : Has Try.prog 64 c_river_levelAt := by
  refine hasF (ctx_cons (h_river_curveAt (ctx_cons h_numbers_Up (ctx_cons h_numbers_Down ctx_nil))) ctx_nil) mix Try.func64 rfl (by kernel_rfl) ?_
  rintro ⟨a0, a1⟩ r hF
  refine ⟨of_decide_eq_true rfl, ?_⟩
  refine st1 ?_
  obtain ⟨_, h, hF⟩ := e_bind hF
  (first | refine g_hcall h lv1 (callable_conF rfl rfl (fun _ => rfl)) ?_ | refine g_hcallT h lv1 (callable_conF rfl rfl (fun _ => rfl)) ?_)
  (conv => arg 1; whnf)
  refine st1 ?_
  obtain ⟨_, h, hF⟩ := e_bind hF
  (first | refine g_hcall h lv1 (callable_conF rfl rfl (fun _ => rfl)) ?_ | refine g_hcallT h lv1 (callable_conF rfl rfl (fun _ => rfl)) ?_)
  (conv => arg 1; whnf)
  refine st1 ?_
  have hq : some _ = some _ := hF
  cases hq
  exact en1


@[reducible] noncomputable def c_river_Level : Con := conF F_river_Level (fun x => match x with | (a0, a1) => [(V.agg (eTReach a0)), (V.agg (eTBounds a1))]) (fun r => V.tup [(V.agg (eTBounds r.1)), (V.v (.int .i64 (r.2)))])
theorem h_river_Level : Has Try.prog 22 c_river_Level := by
  refine hasF (ctx_cons h_river_levelAt (ctx_cons h_numbers_Valid (ctx_cons h_river_validReach ctx_nil))) mix Try.func22 rfl (by kernel_rfl) ?_
  rintro ⟨a0, a1⟩ r hF
  refine ⟨of_decide_eq_true rfl, ?_⟩
  refine st1 ?_
  obtain ⟨_, h, hF⟩ := e_bind hF
  (first | refine g_call h lv1 ?_ | refine g_callT h lv1 ?_)
  (conv => arg 1; whnf)
  refine st1 ?_
  rcases e_bif hF with ⟨hb, hF⟩ | ⟨hb, hF⟩ <;> rw [hb]
  · refine st1 ?_
    have hq : some _ = some _ := hF
    cases hq
    exact en1
  · refine st1 ?_
    obtain ⟨_, h, hF⟩ := e_bind hF
    (first | refine g_call h lv1 ?_ | refine g_callT h lv1 ?_)
    (conv => arg 1; whnf)
    refine st1 ?_
    rcases e_bif hF with ⟨hb, hF⟩ | ⟨hb, hF⟩ <;> rw [hb]
    · refine st1 ?_
      have hq : some _ = some _ := hF
      cases hq
      exact en1
    · refine st1 ?_
      obtain ⟨_, h, hF⟩ := e_bind hF
      (first | refine g_call h lv1 ?_ | refine g_callT h lv1 ?_)
      (conv => arg 1; whnf)
      refine st1 ?_
      have hq : some _ = some _ := hF
      cases hq
      exact en1


@[reducible] noncomputable def c_thalwegref01_Floor : Con := conF F_thalwegref01_Floor (fun x => match x with | (a0, a1) => [(V.v (.int .i64 (a0))), (V.v (.int .i64 (a1)))]) (fun r => (V.v (.int .i64 (r))))
theorem h_thalwegref01_Floor : Has Try.prog 72 c_thalwegref01_Floor := by
  refine hasF ctx_nil mix Try.func72 rfl (by kernel_rfl) ?_
  rintro ⟨a0, a1⟩ r hF
  refine ⟨of_decide_eq_true rfl, ?_⟩
  refine st1 ?_
  obtain ⟨_, h, hF⟩ := e_bind hF
  (first | refine go_req (nz_ne h) ?_ | refine goT_req (nz_ne h) ?_)
  (conv => arg 1; whnf)
  refine st1 ?_
  rcases e_bif hF with ⟨hb, hF⟩ | ⟨hb, hF⟩ <;> rw [hb]
  · refine st1 ?_
    have hq : some _ = some _ := hF
    cases hq
    exact en1
  · refine st1 ?_
    have hq : some _ = some _ := hF
    cases hq
    exact en1


@[reducible] noncomputable def c_thalwegref01_Ceil : Con := conF F_thalwegref01_Ceil (fun x => match x with | (a0, a1) => [(V.v (.int .i64 (a0))), (V.v (.int .i64 (a1)))]) (fun r => (V.v (.int .i64 (r))))
theorem h_thalwegref01_Ceil : Has Try.prog 73 c_thalwegref01_Ceil := by
  refine hasF ctx_nil mix Try.func73 rfl (by kernel_rfl) ?_
  rintro ⟨a0, a1⟩ r hF
  refine ⟨of_decide_eq_true rfl, ?_⟩
  refine st1 ?_
  obtain ⟨_, h, hF⟩ := e_bind hF
  (first | refine go_req (nz_ne h) ?_ | refine goT_req (nz_ne h) ?_)
  (conv => arg 1; whnf)
  refine st1 ?_
  rcases e_bif hF with ⟨hb, hF⟩ | ⟨hb, hF⟩ <;> rw [hb]
  · refine st1 ?_
    have hq : some _ = some _ := hF
    cases hq
    exact en1
  · refine st1 ?_
    have hq : some _ = some _ := hF
    cases hq
    exact en1


@[reducible] noncomputable def c_thalwegref01_Curve : Con := conF F_thalwegref01_Curve (fun x => match x with | (a0, a1, a2) => [(V.agg (eTReach a0)), (V.v (.int .i64 (a1))), (V.v (.bool (a2)))]) (fun r => (V.v (.int .i64 (r))))
theorem h_thalwegref01_Curve : Has Try.prog 65 c_thalwegref01_Curve := by
  refine hasF (ctx_cons h_thalwegref01_Ceil (ctx_cons h_thalwegref01_Floor ctx_nil)) mix Try.func65 rfl (by kernel_rfl) ?_
  rintro ⟨a0, a1, a2⟩ r hF
  refine ⟨of_decide_eq_true rfl, ?_⟩
  refine st1 ?_
  obtain ⟨_, h, hF⟩ := e_bind hF
  (first | refine o_ia (enc := eTRateRow) (s := 2) h (fun _ => rfl) (by decide) ?_ | refine o_iaT (enc := eTRateRow) (s := 2) h (fun _ => rfl) (by decide) ?_)
  intro _
  refine st1 ?_
  obtain ⟨_, h, hF⟩ := e_bind hF
  (first | refine o_ia (enc := eTRateRow) (s := 2) h (fun _ => rfl) (by decide) ?_ | refine o_iaT (enc := eTRateRow) (s := 2) h (fun _ => rfl) (by decide) ?_)
  intro _
  refine st1 ?_
  rcases e_bif hF with ⟨hb, hF⟩ | ⟨hb, hF⟩ <;> rw [hb]
  · refine st1 ?_
    obtain ⟨_, h, hF⟩ := e_bind hF
    (first | refine o_ia (enc := eTRateRow) (s := 2) h (fun _ => rfl) (by decide) ?_ | refine o_iaT (enc := eTRateRow) (s := 2) h (fun _ => rfl) (by decide) ?_)
    intro _
    refine st1 ?_
    have hq : some _ = some _ := hF
    cases hq
    exact en1
  · refine st1 ?_
    rcases e_bif hF with ⟨hb, hF⟩ | ⟨hb, hF⟩ <;> rw [hb]
    · refine st1 ?_
      have hq : some _ = some _ := hF
      cases hq
      exact en1
    · refine st1 ?_
      refine st_loopF (e_assoc hF) () [(0, _)] ⟨sT, sS, by rfl, by rfl⟩ ?_
      · rintro n _ _ x hx1 hF
        (conv => arg 7; whnf); (conv => arg 8; whnf); (conv => arg 9; whnf)
        refine st1 ?_
        obtain ⟨_, h, hF⟩ := e_bind hF
        (first | refine o_ia (enc := eTRateRow) (s := 2) h (fun _ => rfl) (by decide) ?_ | refine o_iaT (enc := eTRateRow) (s := 2) h (fun _ => rfl) (by decide) ?_)
        intro _
        refine st1 ?_
        rcases e_bif hF with ⟨hb, hF⟩ | ⟨hb, hF⟩ <;> rw [hb]
        · refine st1 ?_
          exact k_loopF (e_some hF) hx1 () [(0, _)] ⟨sT, sS, by rfl, by rfl⟩
        · refine st1 ?_
          have hF := e_some hF
          obtain ⟨_, h, hF⟩ := e_bind hF
          (first | refine o_ia (enc := eTRateRow) (s := 2) h (fun _ => rfl) (by decide) ?_ | refine o_iaT (enc := eTRateRow) (s := 2) h (fun _ => rfl) (by decide) ?_)
          intro _
          refine st1 ?_
          obtain ⟨_, h, hF⟩ := e_bind hF
          (first | refine o_ia (enc := eTRateRow) (s := 2) h (fun _ => rfl) (by decide) ?_ | refine o_iaT (enc := eTRateRow) (s := 2) h (fun _ => rfl) (by decide) ?_)
          intro _
          refine st1 ?_
          rcases e_bif hF with ⟨hb, hF⟩ | ⟨hb, hF⟩ <;> rw [hb]
          · refine st1 ?_
            obtain ⟨_, h, hF⟩ := e_bind hF
            (first | refine g_call h lv1 ?_ | refine g_callT h lv1 ?_)
            (conv => arg 1; whnf)
            refine st1 ?_
            have hq : some _ = some _ := hF
            cases hq
            exact en1
          · refine st1 ?_
            obtain ⟨_, h, hF⟩ := e_bind hF
            (first | refine g_call h lv1 ?_ | refine g_callT h lv1 ?_)
            (conv => arg 1; whnf)
            refine st1 ?_
            have hq : some _ = some _ := hF
            cases hq
            exact en1


@[reducible] noncomputable def c_thalwegref01_Level : Con := conF F_thalwegref01_Level (fun x => match x with | (a0, a1) => [(V.agg (eTReach a0)), (V.agg (eTBounds a1))]) (fun r => (V.agg (eTBounds r)))
theorem h_thalwegref01_Level : Has Try.prog 25 c_thalwegref01_Level := by
  refine hasF (ctx_cons h_thalwegref01_Curve ctx_nil) mix Try.func25 rfl (by kernel_rfl) ?_
  rintro ⟨a0, a1⟩ r hF
  refine ⟨of_decide_eq_true rfl, ?_⟩
  refine st1 ?_
  obtain ⟨_, h, hF⟩ := e_bind hF
  (first | refine g_call h lv1 ?_ | refine g_callT h lv1 ?_)
  (conv => arg 1; whnf)
  refine st1 ?_
  obtain ⟨_, h, hF⟩ := e_bind hF
  (first | refine g_call h lv1 ?_ | refine g_callT h lv1 ?_)
  (conv => arg 1; whnf)
  refine st1 ?_
  have hq : some _ = some _ := hF
  cases hq
  exact en1


@[reducible] noncomputable def c_thalweglaw01_RiverChecks : Con := conF F_thalweglaw01_RiverChecks (fun x => match x with | (a0, a1, a2) => [(V.agg (eTRiver a0)), (V.agg (eTReach a1)), (V.agg (eTBounds a2))]) (fun r => (V.v (.bool (r))))
theorem fl_thalweglaw01_RiverChecks_27 : flatOf Try.prog 9 27 = some [true, true] := by kernel_rfl
theorem eg_thalweglaw01_RiverChecks_27 : Try.prog.eqGuardType Try.prog.depth 27 = false := by kernel_rfl
theorem ag_thalweglaw01_RiverChecks_27 : aggOf Try.prog 27 = some true := by kernel_rfl
theorem h_thalweglaw01_RiverChecks : Has Try.prog 3 c_thalweglaw01_RiverChecks := by
  refine hasF (ctx_cons h_thalwegref01_Level (ctx_cons h_thalwegref01_Valid (ctx_cons h_thalwegref01_Reach (ctx_cons h_river_Level (ctx_cons h_thalweglaw01_unchanged (ctx_cons h_thalwegref01_River (ctx_cons h_river_Check (ctx_cons h_thalweglaw01_copied (ctx_cons h_thalweglaw01_known (ctx_cons h_thalweglaw01_large ctx_nil)))))))))) mix Try.func3 rfl (by kernel_rfl) ?_
  rintro ⟨a0, a1, a2⟩ r hF
  refine ⟨of_decide_eq_true rfl, ?_⟩
  refine st1 ?_
  obtain ⟨_, h, hF⟩ := e_bind hF
  (first | refine g_call h lv1 ?_ | refine g_callT h lv1 ?_)
  (conv => arg 1; whnf)
  refine st1 ?_
  rcases e_bif hF with ⟨hb, hF⟩ | ⟨hb, hF⟩ <;> rw [hb]
  · refine st1 ?_
    obtain ⟨_, h, hF⟩ := e_bind hF
    (first | refine g_call h lv1 ?_ | refine g_callT h lv1 ?_)
    (conv => arg 1; whnf)
    refine st1 ?_
    have hq : some _ = some _ := hF
    cases hq
    exact en1
  · refine st1 ?_
    rcases e_bif hF with ⟨hb, hF⟩ | ⟨hb, hF⟩ <;> rw [hb]
    · refine st1 ?_
      obtain ⟨_, h, hF⟩ := e_bind hF
      (first | refine g_call h lv1 ?_ | refine g_callT h lv1 ?_)
      (conv => arg 1; whnf)
      refine st1 ?_
      have hq : some _ = some _ := hF
      cases hq
      exact en1
    · refine st1 ?_
      obtain ⟨_, h, hF⟩ := e_bind hF
      (first | refine g_call h lv1 ?_ | refine g_callT h lv1 ?_)
      (conv => arg 1; whnf)
      refine st1 ?_
      obtain ⟨_, h, hF⟩ := e_bind hF
      (first | refine g_call h lv1 ?_ | refine g_callT h lv1 ?_)
      (conv => arg 1; whnf)
      refine st1 ?_
      rcases e_bif hF with ⟨hb, hF⟩ | ⟨hb, hF⟩ <;> rw [hb]
      · refine st1 ?_
        rcases e_bif hF with ⟨hb, hF⟩ | ⟨hb, hF⟩ <;> rw [hb]
        · refine st1 ?_
          have hq : some _ = some _ := hF
          cases hq
          exact en1
        · refine st1 ?_
          obtain ⟨_, h, hF⟩ := e_bind hF
          (first | refine g_call h lv1 ?_ | refine g_callT h lv1 ?_)
          (conv => arg 1; whnf)
          refine st1 ?_
          rcases e_bif hF with ⟨hb, hF⟩ | ⟨hb, hF⟩ <;> rw [hb]
          · refine st1 ?_
            have hq : some _ = some _ := hF
            cases hq
            exact en1
          · refine st1 ?_
            obtain ⟨_, h, hF⟩ := e_bind hF
            (first | refine g_call h lv1 ?_ | refine g_callT h lv1 ?_)
            (conv => arg 1; whnf)
            refine st1 ?_
            rcases e_bif hF with ⟨hb, hF⟩ | ⟨hb, hF⟩ <;> rw [hb]
            · refine st1 ?_
              have hq : some _ = some _ := hF
              cases hq
              exact en1
            · refine st1 ?_
              obtain ⟨_, h, hF⟩ := e_bind hF
              (first | refine o_app (enc := eTRateRow) (s := 2) h (fun _ => rfl) ?_ | refine o_appT (enc := eTRateRow) (s := 2) h (fun _ => rfl) ?_)
              refine st1 ?_
              obtain ⟨_, h, hF⟩ := e_bind hF
              (first | refine g_call h lv1 ?_ | refine g_callT h lv1 ?_)
              (conv => arg 1; whnf)
              refine st1 ?_
              obtain ⟨_, h, hF⟩ := e_bind hF
              (first | refine g_call h lv1 ?_ | refine g_callT h lv1 ?_)
              (conv => arg 1; whnf)
              refine st1 ?_
              rcases e_bif hF with ⟨hb, hF⟩ | ⟨hb, hF⟩ <;> rw [hb]
              · refine st1 ?_
                rcases e_bif hF with ⟨hb, hF⟩ | ⟨hb, hF⟩ <;> rw [hb]
                · refine st1 ?_
                  rw [fl_thalweglaw01_RiverChecks_27, eg_thalweglaw01_RiverChecks_27, ag_thalweglaw01_RiverChecks_27]
                  (conv => arg 1; whnf)
                  refine st1 ?_
                  rcases e_bif hF with ⟨hb, hF⟩ | ⟨hb, hF⟩ <;> rw [hb]
                  · refine st1 ?_
                    obtain ⟨_, h, hF⟩ := e_bind hF
                    (first | refine g_call h lv1 ?_ | refine g_callT h lv1 ?_)
                    (conv => arg 1; whnf)
                    refine st1 ?_
                    have hq : some _ = some _ := hF
                    cases hq
                    exact en1
                  · refine st1 ?_
                    have hq : some _ = some _ := hF
                    cases hq
                    exact en1
                · refine st1 ?_
                  have hq : some _ = some _ := hF
                  cases hq
                  exact en1
              · refine st1 ?_
                obtain ⟨_, h, hF⟩ := e_bind hF
                (first | refine g_call h lv1 ?_ | refine g_callT h lv1 ?_)
                (conv => arg 1; whnf)
                refine st1 ?_
                rcases e_bif hF with ⟨hb, hF⟩ | ⟨hb, hF⟩ <;> rw [hb]
                · refine st1 ?_
                  rcases e_bif hF with ⟨hb, hF⟩ | ⟨hb, hF⟩ <;> rw [hb]
                  · refine st1 ?_
                    rw [fl_thalweglaw01_RiverChecks_27, eg_thalweglaw01_RiverChecks_27, ag_thalweglaw01_RiverChecks_27]
                    (conv => arg 1; whnf)
                    refine st1 ?_
                    rcases e_bif hF with ⟨hb, hF⟩ | ⟨hb, hF⟩ <;> rw [hb]
                    · refine st1 ?_
                      obtain ⟨_, h, hF⟩ := e_bind hF
                      (first | refine g_call h lv1 ?_ | refine g_callT h lv1 ?_)
                      (conv => arg 1; whnf)
                      refine st1 ?_
                      have hq : some _ = some _ := hF
                      cases hq
                      exact en1
                    · refine st1 ?_
                      have hq : some _ = some _ := hF
                      cases hq
                      exact en1
                  · refine st1 ?_
                    have hq : some _ = some _ := hF
                    cases hq
                    exact en1
                · refine st1 ?_
                  rcases e_bif hF with ⟨hb, hF⟩ | ⟨hb, hF⟩ <;> rw [hb]
                  · refine st1 ?_
                    obtain ⟨_, h, hF⟩ := e_bind hF
                    (first | refine g_call h lv1 ?_ | refine g_callT h lv1 ?_)
                    (conv => arg 1; whnf)
                    refine st1 ?_
                    rw [fl_thalweglaw01_RiverChecks_27, eg_thalweglaw01_RiverChecks_27, ag_thalweglaw01_RiverChecks_27]
                    (conv => arg 1; whnf)
                    refine st1 ?_
                    rcases e_bif hF with ⟨hb, hF⟩ | ⟨hb, hF⟩ <;> rw [hb]
                    · refine st1 ?_
                      obtain ⟨_, h, hF⟩ := e_bind hF
                      (first | refine g_call h lv1 ?_ | refine g_callT h lv1 ?_)
                      (conv => arg 1; whnf)
                      refine st1 ?_
                      have hq : some _ = some _ := hF
                      cases hq
                      exact en1
                    · refine st1 ?_
                      have hq : some _ = some _ := hF
                      cases hq
                      exact en1
                  · refine st1 ?_
                    have hq : some _ = some _ := hF
                    cases hq
                    exact en1
      · refine st1 ?_
        obtain ⟨_, h, hF⟩ := e_bind hF
        (first | refine g_call h lv1 ?_ | refine g_callT h lv1 ?_)
        (conv => arg 1; whnf)
        refine st1 ?_
        rcases e_bif hF with ⟨hb, hF⟩ | ⟨hb, hF⟩ <;> rw [hb]
        · refine st1 ?_
          have hq : some _ = some _ := hF
          cases hq
          exact en1
        · refine st1 ?_
          obtain ⟨_, h, hF⟩ := e_bind hF
          (first | refine g_call h lv1 ?_ | refine g_callT h lv1 ?_)
          (conv => arg 1; whnf)
          refine st1 ?_
          rcases e_bif hF with ⟨hb, hF⟩ | ⟨hb, hF⟩ <;> rw [hb]
          · refine st1 ?_
            have hq : some _ = some _ := hF
            cases hq
            exact en1
          · refine st1 ?_
            obtain ⟨_, h, hF⟩ := e_bind hF
            (first | refine o_app (enc := eTRateRow) (s := 2) h (fun _ => rfl) ?_ | refine o_appT (enc := eTRateRow) (s := 2) h (fun _ => rfl) ?_)
            refine st1 ?_
            obtain ⟨_, h, hF⟩ := e_bind hF
            (first | refine g_call h lv1 ?_ | refine g_callT h lv1 ?_)
            (conv => arg 1; whnf)
            refine st1 ?_
            obtain ⟨_, h, hF⟩ := e_bind hF
            (first | refine g_call h lv1 ?_ | refine g_callT h lv1 ?_)
            (conv => arg 1; whnf)
            refine st1 ?_
            rcases e_bif hF with ⟨hb, hF⟩ | ⟨hb, hF⟩ <;> rw [hb]
            · refine st1 ?_
              rcases e_bif hF with ⟨hb, hF⟩ | ⟨hb, hF⟩ <;> rw [hb]
              · refine st1 ?_
                rw [fl_thalweglaw01_RiverChecks_27, eg_thalweglaw01_RiverChecks_27, ag_thalweglaw01_RiverChecks_27]
                (conv => arg 1; whnf)
                refine st1 ?_
                rcases e_bif hF with ⟨hb, hF⟩ | ⟨hb, hF⟩ <;> rw [hb]
                · refine st1 ?_
                  obtain ⟨_, h, hF⟩ := e_bind hF
                  (first | refine g_call h lv1 ?_ | refine g_callT h lv1 ?_)
                  (conv => arg 1; whnf)
                  refine st1 ?_
                  have hq : some _ = some _ := hF
                  cases hq
                  exact en1
                · refine st1 ?_
                  have hq : some _ = some _ := hF
                  cases hq
                  exact en1
              · refine st1 ?_
                have hq : some _ = some _ := hF
                cases hq
                exact en1
            · refine st1 ?_
              obtain ⟨_, h, hF⟩ := e_bind hF
              (first | refine g_call h lv1 ?_ | refine g_callT h lv1 ?_)
              (conv => arg 1; whnf)
              refine st1 ?_
              rcases e_bif hF with ⟨hb, hF⟩ | ⟨hb, hF⟩ <;> rw [hb]
              · refine st1 ?_
                rcases e_bif hF with ⟨hb, hF⟩ | ⟨hb, hF⟩ <;> rw [hb]
                · refine st1 ?_
                  rw [fl_thalweglaw01_RiverChecks_27, eg_thalweglaw01_RiverChecks_27, ag_thalweglaw01_RiverChecks_27]
                  (conv => arg 1; whnf)
                  refine st1 ?_
                  rcases e_bif hF with ⟨hb, hF⟩ | ⟨hb, hF⟩ <;> rw [hb]
                  · refine st1 ?_
                    obtain ⟨_, h, hF⟩ := e_bind hF
                    (first | refine g_call h lv1 ?_ | refine g_callT h lv1 ?_)
                    (conv => arg 1; whnf)
                    refine st1 ?_
                    have hq : some _ = some _ := hF
                    cases hq
                    exact en1
                  · refine st1 ?_
                    have hq : some _ = some _ := hF
                    cases hq
                    exact en1
                · refine st1 ?_
                  have hq : some _ = some _ := hF
                  cases hq
                  exact en1
              · refine st1 ?_
                rcases e_bif hF with ⟨hb, hF⟩ | ⟨hb, hF⟩ <;> rw [hb]
                · refine st1 ?_
                  obtain ⟨_, h, hF⟩ := e_bind hF
                  (first | refine g_call h lv1 ?_ | refine g_callT h lv1 ?_)
                  (conv => arg 1; whnf)
                  refine st1 ?_
                  rw [fl_thalweglaw01_RiverChecks_27, eg_thalweglaw01_RiverChecks_27, ag_thalweglaw01_RiverChecks_27]
                  (conv => arg 1; whnf)
                  refine st1 ?_
                  rcases e_bif hF with ⟨hb, hF⟩ | ⟨hb, hF⟩ <;> rw [hb]
                  · refine st1 ?_
                    obtain ⟨_, h, hF⟩ := e_bind hF
                    (first | refine g_call h lv1 ?_ | refine g_callT h lv1 ?_)
                    (conv => arg 1; whnf)
                    refine st1 ?_
                    have hq : some _ = some _ := hF
                    cases hq
                    exact en1
                  · refine st1 ?_
                    have hq : some _ = some _ := hF
                    cases hq
                    exact en1
                · refine st1 ?_
                  have hq : some _ = some _ := hF
                  cases hq
                  exact en1

end Go.Ev
/- Chapter 1: what the checks say. -/
set_option linter.unusedVariables false
set_option linter.unusedSimpArgs false
namespace Go.Ev
set_option maxHeartbeats 1000000

theorem every_int {l : List Int} {p : Int → Option Bool} {q : Int → Bool} {g : FuncId} {caps : List V} (hp : ∀ x ∈ l, p x = some (q x)) (hl : l.length ≤ 4611686018427387904) : F_numbers_Every_int (l, p, g, caps) = some (l.all q) := by
  unfold F_numbers_Every_int
  simp only
  rw [show (0 : Int) = ((0 : Nat) : Int) from rfl, loop_list l (fun k => (k : Int)) q (e := .inl ()) (f := .inr false)]
  · cases l.all q <;> rfl
  · intro k hk
    simp only [L_numbers_Every_int_1, Int.ofNat_lt, hk, decide_true, cond_true, idx?_nat hk, Option.bind_some, hp _ (List.getElem_mem hk), wr_nat (show k < 9223372036854775807 by omega)]
    cases q l[k] <;> rfl
  · simp [L_numbers_Every_int_1]
theorem every_Reach {l : List TReach} {p : TReach → Option Bool} {q : TReach → Bool} {g : FuncId} {caps : List V} (hp : ∀ x ∈ l, p x = some (q x)) (hl : l.length ≤ 4611686018427387904) : F_numbers_Every_Reach (l, p, g, caps) = some (l.all q) := by
  unfold F_numbers_Every_Reach
  simp only
  rw [show (0 : Int) = ((0 : Nat) : Int) from rfl, loop_list l (fun k => (k : Int)) q (e := .inl ()) (f := .inr false)]
  · cases l.all q <;> rfl
  · intro k hk
    simp only [L_numbers_Every_Reach_1, Int.ofNat_lt, hk, decide_true, cond_true, idx?_nat hk, Option.bind_some, hp _ (List.getElem_mem hk), wr_nat (show k < 9223372036854775807 by omega)]
    cases q l[k] <;> rfl
  · simp [L_numbers_Every_Reach_1]
theorem every_RateRow {l : List TRateRow} {p : TRateRow → Option Bool} {q : TRateRow → Bool} {g : FuncId} {caps : List V} (hp : ∀ x ∈ l, p x = some (q x)) (hl : l.length ≤ 4611686018427387904) : F_numbers_Every_RateRow (l, p, g, caps) = some (l.all q) := by
  unfold F_numbers_Every_RateRow
  simp only
  rw [show (0 : Int) = ((0 : Nat) : Int) from rfl, loop_list l (fun k => (k : Int)) q (e := .inl ()) (f := .inr false)]
  · cases l.all q <;> rfl
  · intro k hk
    simp only [L_numbers_Every_RateRow_1, Int.ofNat_lt, hk, decide_true, cond_true, idx?_nat hk, Option.bind_some, hp _ (List.getElem_mem hk), wr_nat (show k < 9223372036854775807 by omega)]
    cases q l[k] <;> rfl
  · simp [L_numbers_Every_RateRow_1]
theorem every_Shoal {l : List TShoal} {p : TShoal → Option Bool} {q : TShoal → Bool} {g : FuncId} {caps : List V} (hp : ∀ x ∈ l, p x = some (q x)) (hl : l.length ≤ 4611686018427387904) : F_numbers_Every_Shoal (l, p, g, caps) = some (l.all q) := by
  unfold F_numbers_Every_Shoal
  simp only
  rw [show (0 : Int) = ((0 : Nat) : Int) from rfl, loop_list l (fun k => (k : Int)) q (e := .inl ()) (f := .inr false)]
  · cases l.all q <;> rfl
  · intro k hk
    simp only [L_numbers_Every_Shoal_1, Int.ofNat_lt, hk, decide_true, cond_true, idx?_nat hk, Option.bind_some, hp _ (List.getElem_mem hk), wr_nat (show k < 9223372036854775807 by omega)]
    cases q l[k] <;> rfl
  · simp [L_numbers_Every_Shoal_1]

theorem bif_and (a b : Bool) : (bif a then some b else some false) = some (a && b) := by cases a <;> rfl
theorem bif_not (a b : Bool) : (bif (!a) then some false else some b) = some (a && b) := by cases a <;> rfl

theorem within1_eq (n a b : Int) : F_numbers_Within_1 (n, a, b) = some (inB n a b) := by
  simp only [F_numbers_Within_1, bif_and, inB]
theorem within_eq (a b : Int) (l : List Int) (hl : l.length ≤ 4611686018427387904) : F_numbers_Within (a, b, l) = some (l.all fun n => inB n a b) := by
  simp only [F_numbers_Within]
  rw [every_int (q := fun n => inB n a b) (fun x _ => within1_eq x a b) hl]
  rfl
theorem within1 (a b n : Int) : F_numbers_Within (a, b, [n]) = some (inB n a b) := by rw [within_eq _ _ _ (by simp)]; simp
theorem within2 (a b n m : Int) : F_numbers_Within (a, b, [n, m]) = some (inB n a b && inB m a b) := by rw [within_eq _ _ _ (by simp)]; simp
def vB (b : TBounds) (x y : Int) : Bool := decide (b.Low ≤ b.High) && (inB b.Low x y && inB b.High x y)
theorem valid_eq (b : TBounds) (x y : Int) : F_numbers_Valid (b, x, y) = some (vB b x y) := by
  simp only [F_numbers_Valid, within2, Option.bind_some, bif_and, vB]
theorem In_eq (n a b : Int) : F_thalwegref01_In (n, a, b) = some (inB n a b) := by
  simp only [F_thalwegref01_In, ge_iff_le, bif_and, inB]
theorem rvalid_eq (b : TBounds) (x y : Int) : F_thalwegref01_Valid (b, x, y) = some (vB b x y) := by
  simp only [F_thalwegref01_Valid, In_eq, Option.bind_some, bif_and]
  congr 1
  rw [Bool.eq_iff_iff]
  simp only [vB, inB, Bool.and_eq_true, decide_eq_true_eq]
  omega

def rowOk (x : TRateRow) : Bool := inB x.Flow 0 10000000000 && inB x.Level 0 10000
def pairOk (p : TRateRow × TRateRow) : Bool := decide (p.1.Flow < p.2.Flow) && decide (p.1.Level ≤ p.2.Level)
def curveOk (l : List TRateRow) : Bool := inB l.length 2 30 && ((pairs l).all pairOk && l.all rowOk)
theorem vc2_eq (x : TRateRow) : F_river_validCurve_2 x = some (rowOk x) := by
  simp only [F_river_validCurve_2, within1, Option.bind_some, bif_and, rowOk]
theorem vc1_eq (a b : TRateRow) : F_river_validCurve_1 (a, b) = some (pairOk (a, b)) := by
  simp only [F_river_validCurve_1, bif_and, pairOk]
theorem validCurve_eq (l : List TRateRow) : F_river_validCurve l = some (curveOk l) := by
  unfold F_river_validCurve
  simp only [within1, Option.bind_some]
  cases hl : inB l.length 2 30 with
  | false => simp [curveOk, hl]
  | true =>
    rw [inB_iff] at hl
    simp only [Bool.not_true, cond_false]
    rw [show (1 : Int) = (((0 : Nat) + 1 : Nat) : Int) from rfl, loop_list (pairs l) (fun k => ((k + 1 : Nat) : Int)) pairOk (e := .inl ()) (f := .inr false)]
    · cases hp : (pairs l).all pairOk with
      | false => simp [curveOk, hp]
      | true =>
        simp only [if_true, Option.bind_some]
        rw [every_RateRow (q := rowOk) (fun x _ => vc2_eq x) (by omega)]
        simp [curveOk, hp, inB, hl]
    · intro k hk
      have hk' := hk
      rw [pairs_length] at hk'
      rw [pairs_get]
      simp only [L_river_validCurve_1, show decide (((k + 1 : Nat) : Int) < (l.length : Int)) = true by simp; omega, cond_true]
      rw [show wr (((k + 1 : Nat) : Int) - 1) = (k : Int) by rw [wr_in] <;> omega, idx?_nat (show k < l.length by omega), idx?_nat (show k + 1 < l.length by omega)]
      simp only [Option.bind_some, vc1_eq]
      rw [wr_nat (by omega)]
      cases pairOk (l[k], l[k + 1]) <;> rfl
    · simp only [L_river_validCurve_1, pairs_length]
      rw [show l.length - 1 + 1 = l.length by omega]
      simp
def reachOk (x : TReach) : Bool := inB x.Length 1 5000 && (inB x.Delay 0 200 && ((inB x.Weir 0 10000 && inB x.Flood 0 10000) && (vB x.Base 0 10000000000 && (vB x.Bottom 0 10000 && curveOk x.Curve))))
theorem validReach_eq (x : TReach) : F_river_validReach x = some (reachOk x) := by
  simp only [F_river_validReach, within1, within2, valid_eq, validCurve_eq, Option.bind_some, bif_and, reachOk]
end Go.Ev
/- Chapter 1: rivers that are valid. -/
set_option linter.unusedVariables false
set_option linter.unusedSimpArgs false
namespace Go.Ev
set_option maxHeartbeats 1000000

theorem bif_not' (a : Bool) (x : Option Bool) : (bif (!a) then some false else x) = bif a then x else some false := by cases a <;> rfl
/-- What a reference asks of the rows of a curve, row by row. -/
def rowAt (l : List TRateRow) (k : Nat) : Bool := match l[k]? with
  | none => true
  | some x => rowOk x && (decide (k = 0) || match l[k - 1]? with
    | none => true
    | some y => pairOk (y, x))
theorem all_rows (l : List TRateRow) : (List.range l.length).all (rowAt l) = ((pairs l).all pairOk && l.all rowOk) := by
  rw [Bool.eq_iff_iff]
  simp only [List.all_eq_true, Bool.and_eq_true, List.mem_range]
  constructor
  · intro h
    refine ⟨fun p hp => ?_, fun x hx => ?_⟩
    · obtain ⟨k, hk, rfl⟩ := List.getElem_of_mem hp
      rw [pairs_get]
      have hk' := hk
      rw [pairs_length] at hk'
      have := h (k + 1) (by omega)
      unfold rowAt at this
      rw [List.getElem?_eq_getElem (show k + 1 < l.length by omega)] at this
      simp only [Nat.add_sub_cancel, List.getElem?_eq_getElem (show k < l.length by omega), Bool.and_eq_true, Bool.or_eq_true] at this
      rcases this.2 with h1 | h1
      · simp at h1
      · exact h1
    · obtain ⟨k, hk, rfl⟩ := List.getElem_of_mem hx
      have := h k hk
      unfold rowAt at this
      rw [List.getElem?_eq_getElem hk] at this
      simp only [Bool.and_eq_true] at this
      exact this.1
  · rintro ⟨h1, h2⟩ k hk
    unfold rowAt
    rw [List.getElem?_eq_getElem hk]
    simp only [Bool.and_eq_true, Bool.or_eq_true]
    refine ⟨h2 _ (List.getElem_mem hk), ?_⟩
    cases k with
    | zero => left; rfl
    | succ k =>
      right
      rw [Nat.add_sub_cancel, List.getElem?_eq_getElem (show k < l.length by omega)]
      have hp : k < (pairs l).length := by rw [pairs_length]; omega
      have := h1 _ (List.getElem_mem hp)
      rwa [pairs_get] at this

theorem loop_range {S E : Type} {step : S → Option (S ⊕ E)} (n : Nat) (st : Nat → S) (q : Nat → Bool) {e f : E} (h : ∀ k, k < n → step (st k) = some (if q k then .inl (st (k + 1)) else .inr f)) (he : step (st n) = some (.inr e)) :
    loopC step (st 0) = some (if (List.range n).all q then e else f) := by
  have := loop_list (List.range n) st q (e := e) (f := f) (step := step) (by intro k hk; simpa using h k (by simpa using hk)) (by simpa using he)
  exact this

theorem refReach_eq (x : TReach) : F_thalwegref01_Reach x = some (reachOk x) := by
  unfold F_thalwegref01_Reach
  simp only [In_eq, rvalid_eq, Option.bind_some, bif_not']
  cases hl : inB x.Curve.length 2 30 with
  | false =>
    have : reachOk x = false := by simp [reachOk, curveOk, hl]
    rw [this]
    simp only [cond_false]
    cases inB x.Length 1 5000 <;> cases inB x.Delay 0 200 <;> cases vB x.Base 0 10000000000 <;> rfl
  | true =>
    have hl2 := inB_iff.1 hl
    rw [show (0 : Int) = ((0 : Nat) : Int) from rfl, loop_range x.Curve.length (fun k => (k : Int)) (rowAt x.Curve) (e := .inl ()) (f := .inr false)]
    · rw [all_rows]
      simp only [reachOk, curveOk, hl]
      cases inB x.Length 1 5000 <;> cases inB x.Delay 0 200 <;> cases vB x.Base 0 10000000000 <;> cases inB x.Weir 0 10000 <;> cases vB x.Bottom 0 10000 <;> cases inB x.Flood 0 10000 <;> cases (pairs x.Curve).all pairOk <;> cases x.Curve.all rowOk <;> rfl
    · intro k hk
      simp only [L_thalwegref01_Reach_1, Int.ofNat_lt, hk, decide_true, cond_true, idx?_nat hk, Option.bind_some, In_eq]
      rw [wr_nat (by omega)]
      simp only [rowAt, List.getElem?_eq_getElem hk, rowOk]
      cases inB x.Curve[k].Flow 0 10000000000 with
      | false => rfl
      | true =>
        cases inB x.Curve[k].Level 0 10000 with
        | false => rfl
        | true =>
          simp only [Bool.not_true, cond_false, Bool.and_self, Bool.true_and]
          cases k with
          | zero => rfl
          | succ k =>
            simp only [show decide (((k + 1 : Nat) : Int) > 0) = true by simp, cond_true]
            rw [show wr (((k + 1 : Nat) : Int) - 1) = (k : Int) by rw [wr_in] <;> omega, idx?_nat (show k < x.Curve.length by omega)]
            simp only [Option.bind_some, Nat.add_sub_cancel, List.getElem?_eq_getElem (show k < x.Curve.length by omega), pairOk, show decide (k + 1 = 0) = false by simp, Bool.false_or]
            by_cases h1 : x.Curve[k + 1].Flow ≤ x.Curve[k].Flow
            · simp [h1, show ¬ x.Curve[k].Flow < x.Curve[k + 1].Flow by omega]
            · by_cases h2 : x.Curve[k + 1].Level < x.Curve[k].Level
              · simp [h1, h2, show x.Curve[k].Flow < x.Curve[k + 1].Flow by omega, show ¬ x.Curve[k].Level ≤ x.Curve[k + 1].Level by omega]
              · simp [h1, h2, show x.Curve[k].Flow < x.Curve[k + 1].Flow by omega, show x.Curve[k].Level ≤ x.Curve[k + 1].Level by omega]
    · simp [L_thalwegref01_Reach_1]
end Go.Ev
/- Chapter 1: places, rivers, copies. -/
set_option linter.unusedVariables false
set_option linter.unusedSimpArgs false
namespace Go.Ev
set_option maxHeartbeats 1000000

theorem drop_cons {α : Type} {l m : List α} {k : Nat} {x : α} (h : l.drop k = x :: m) : ∃ hk : k < l.length, l[k] = x ∧ l.drop (k + 1) = m := by
  have hk : k < l.length := by
    rcases Nat.lt_or_ge k l.length with e | e
    · exact e
    · rw [List.drop_of_length_le e] at h; cases h
  rw [List.drop_eq_getElem_cons hk] at h
  cases h
  exact ⟨hk, rfl, rfl⟩
theorem drop_nil {α : Type} {l : List α} {k : Nat} (h : l.drop k = []) : l.length ≤ k := by
  have := congrArg List.length h
  simpa using Nat.le_of_sub_eq_zero (by simpa using this)

def tot : List TReach → Int
  | [] => 0
  | x :: m => x.Length + tot m
def findGo (place : Int) (sh : List TShoal) : List TReach → Int → Nat → Option Triver_site
  | [], _, _ => none
  | x :: m, e, k => if 0 ≤ place ∧ place < e + x.Length then some ⟨x, k, place, sh⟩ else findGo place sh m (e + x.Length) (k + 1)
theorem find_loop (r : TRiver) (place : Int) : ∀ (m : List TReach) (k : Nat) (e : Int), r.Reaches.drop k = m → (∀ x ∈ m, 0 ≤ x.Length ∧ x.Length ≤ 5000) → 0 ≤ e → e ≤ 5000 * k → k + m.length ≤ 1000000 →
    loopC (L_river_find_1 place r).step (e, (k : Int)) = some (match findGo place r.Shoals m e k with | some s => .inr (s, true) | none => .inl ())
  | [], k, e, h, _, _, _, _ => by
    have := drop_nil h
    rw [loopC_eq]
    simp [L_river_find_1, show ¬ k < r.Reaches.length by omega, findGo]
  | x :: m, k, e, h, hx, h0, h1, hk => by
    obtain ⟨hl, hg, hd⟩ := drop_cons h
    have hx0 := hx x (by simp)
    simp only [List.length_cons] at hk
    have hs : (L_river_find_1 place r).step (e, (k : Int)) = if 0 ≤ place ∧ place < e + x.Length then some (.inr (.inr (⟨x, k, place, r.Shoals⟩, true))) else some (.inl (e + x.Length, ((k + 1 : Nat) : Int))) := by
      simp only [L_river_find_1, Int.ofNat_lt, hl, decide_true, cond_true, idx?_nat hl, Option.bind_some, hg]
      rw [wr_in (n := e + x.Length) (by omega) (by omega), wr_nat (by omega)]
      by_cases c1 : 0 ≤ place
      · by_cases c2 : place < e + x.Length <;> simp [c1, c2]
      · simp [c1]
    have ih := find_loop r place m (k + 1) (e + x.Length) hd (fun y hy => hx y (by simp [hy])) (by omega) (by omega) (by omega)
    rw [loopC_eq, hs, findGo]
    by_cases c : 0 ≤ place ∧ place < e + x.Length
    · rw [if_pos c, if_pos c]
    · rw [if_neg c, if_neg c]; exact ih
def noSite : Triver_site := ⟨⟨0, 0, ⟨0, 0⟩, [], 0, ⟨0, 0⟩, 0⟩, 0, 0, []⟩
theorem find_eq {r : TRiver} {place : Int} (hr : ∀ x ∈ r.Reaches, 0 ≤ x.Length ∧ x.Length ≤ 5000) (hl : r.Reaches.length ≤ 1000) :
    F_river_find (r, place) = some (match findGo place r.Shoals r.Reaches 0 0 with | some s => (s, true) | none => (noSite, false)) := by
  unfold F_river_find
  simp only
  rw [show ((0 : Int), (0 : Int)) = ((0 : Int), ((0 : Nat) : Int)) from rfl, find_loop r place r.Reaches 0 0 rfl hr (by omega) (by omega) (by omega)]
  cases findGo place r.Shoals r.Reaches 0 0 with
  | none => rfl
  | some s => rfl
theorem tot_nonneg : ∀ {m : List TReach}, (∀ x ∈ m, 0 ≤ x.Length ∧ x.Length ≤ 5000) → 0 ≤ tot m
  | [], _ => by simp [tot]
  | x :: m, h => by
    have h0 := h x (by simp)
    have := tot_nonneg (m := m) fun y hy => h y (by simp [hy])
    rw [tot]
    omega
theorem findGo_some {place : Int} {sh : List TShoal} : ∀ {m : List TReach} {e : Int} {k : Nat}, (∀ x ∈ m, 0 ≤ x.Length ∧ x.Length ≤ 5000) → (0 ≤ place → e ≤ place) → ((findGo place sh m e k).isSome = true ↔ 0 ≤ place ∧ place < e + tot m)
  | [], e, k, _, h => by
    rw [findGo, tot]
    constructor
    · intro h; cases h
    · rintro ⟨h1, h2⟩; have := h h1; omega
  | x :: m, e, k, hx, h => by
    have hx0 := hx x (by simp)
    have ht := tot_nonneg fun y (hy : y ∈ m) => hx y (by simp [hy])
    rw [findGo, tot]
    by_cases c : 0 ≤ place ∧ place < e + x.Length
    · rw [if_pos c]
      exact ⟨fun _ => ⟨c.1, by omega⟩, fun _ => rfl⟩
    · rw [if_neg c, findGo_some (e := e + x.Length) (fun y hy => hx y (by simp [hy])) (by intro hp; have := h hp; omega), Int.add_assoc]

def shoalOk (r : TRiver) (s : TShoal) : Bool := inB s.Place 0 (tot r.Reaches - 1) && (inB s.Sounded (-400) 400 && (vB s.Bed 0 10000 && vB s.Grow (-500) 500))
theorem validShoal_eq {r : TRiver} {s : TShoal} (hr : ∀ x ∈ r.Reaches, 0 ≤ x.Length ∧ x.Length ≤ 5000) (hl : r.Reaches.length ≤ 1000) : F_river_validShoal (r, s) = some (shoalOk r s) := by
  have hf := findGo_some (place := s.Place) (sh := r.Shoals) (e := 0) (k := 0) hr (by omega)
  have hf : (findGo s.Place r.Shoals r.Reaches 0 0).isSome = inB s.Place 0 (tot r.Reaches - 1) := by
    rw [Bool.eq_iff_iff, hf, inB_iff]; omega
  simp only [F_river_validShoal, find_eq hr hl, Option.bind_some, within1, valid_eq, bif_and, shoalOk, ← hf]
  cases findGo s.Place r.Shoals r.Reaches 0 0 <;> rfl

theorem reachOk_len {x : TReach} (h : reachOk x = true) : 0 ≤ x.Length ∧ x.Length ≤ 5000 := by
  simp only [reachOk, Bool.and_eq_true, inB_iff] at h
  omega
def riverOk (r : TRiver) : Bool := inB r.Reaches.length 1 20 && (r.Reaches.all reachOk && (decide (r.Shoals.length ≤ 40) && r.Shoals.all (shoalOk r)))
theorem Check_eq (r : TRiver) : F_river_Check r = some (if riverOk r then 0 else 2) := by
  unfold F_river_Check
  simp only [within1, Option.bind_some]
  cases h1 : inB r.Reaches.length 1 20 with
  | false => simp [riverOk, h1]
  | true =>
    have hl := inB_iff.1 h1
    simp only [Bool.not_true, cond_false]
    rw [every_Reach (q := reachOk) (fun x _ => validReach_eq x) (by omega)]
    cases h2 : r.Reaches.all reachOk with
    | false => simp [riverOk, h1, h2]
    | true =>
      have hr : ∀ x ∈ r.Reaches, 0 ≤ x.Length ∧ x.Length ≤ 5000 := fun x hx => reachOk_len (List.all_eq_true.1 h2 x hx)
      simp only [Option.bind_some, Bool.not_true, cond_false]
      by_cases h3 : r.Shoals.length ≤ 40
      · rw [every_Shoal (q := shoalOk r) (fun x _ => by simp only [F_river_Check_1, validShoal_eq hr (by omega), Option.bind_some]) (by omega)]
        simp only [show decide ((r.Shoals.length : Int) > 40) = false by simp; omega, cond_false, Option.bind_some, riverOk, h1, h2, h3, decide_true, Bool.true_and]
        cases r.Shoals.all (shoalOk r) <;> rfl
      · simp only [show decide ((r.Shoals.length : Int) > 40) = true by simp; omega, cond_true, riverOk, h1, h2, h3, decide_false, Bool.true_and, Bool.false_and]
        rfl

theorem tot_bound : ∀ {m : List TReach}, (∀ x ∈ m, 0 ≤ x.Length ∧ x.Length ≤ 5000) → 0 ≤ tot m ∧ tot m ≤ 5000 * m.length
  | [], _ => by simp [tot]
  | x :: m, h => by
    have h0 := h x (by simp)
    have := tot_bound (m := m) fun y hy => h y (by simp [hy])
    simp only [tot, List.length_cons]
    omega
theorem places_loop (r : TRiver) : ∀ (m : List TReach) (k : Nat) (e : Int), r.Reaches.drop k = m → (∀ x ∈ m, 0 ≤ x.Length ∧ x.Length ≤ 5000) → 0 ≤ e → e ≤ 5000 * k → k + m.length ≤ 1000000 →
    loopC (L_thalwegref01_Places_1 r).step (e, (k : Int)) = some (e + tot m)
  | [], k, e, h, _, _, _, _ => by
    have := drop_nil h
    rw [loopC_eq]
    simp [L_thalwegref01_Places_1, show ¬ k < r.Reaches.length by omega, tot]
  | x :: m, k, e, h, hx, h0, h1, hk => by
    obtain ⟨hl, hg, hd⟩ := drop_cons h
    have hx0 := hx x (by simp)
    simp only [List.length_cons] at hk
    have hs : (L_thalwegref01_Places_1 r).step (e, (k : Int)) = some (.inl (e + x.Length, ((k + 1 : Nat) : Int))) := by
      simp only [L_thalwegref01_Places_1, Int.ofNat_lt, hl, decide_true, cond_true, idx?_nat hl, Option.bind_some, hg]
      rw [wr_in (n := e + x.Length) (by omega) (by omega), wr_nat (by omega)]
    rw [loopC_eq, hs, tot]
    simp only
    rw [places_loop r m (k + 1) (e + x.Length) hd (fun y hy => hx y (by simp [hy])) (by omega) (by omega) (by omega), Int.add_assoc]
theorem Places_eq {r : TRiver} (hr : ∀ x ∈ r.Reaches, 0 ≤ x.Length ∧ x.Length ≤ 5000) (hl : r.Reaches.length ≤ 1000) : F_thalwegref01_Places r = some (tot r.Reaches) := by
  unfold F_thalwegref01_Places
  simp only
  rw [show ((0 : Int), (0 : Int)) = ((0 : Int), ((0 : Nat) : Int)) from rfl, places_loop r r.Reaches 0 0 rfl hr (by omega) (by omega) (by omega), Int.zero_add]
  rfl
theorem four {α : Type} (a b c d : Bool) (x y : α) : (bif (!a) then some y else bif (!b) then some y else bif (!c) then some y else bif (!d) then some y else some x) = some (if (a && (c && (b && d))) = true then x else y) := by
  cases a <;> cases b <;> cases c <;> cases d <;> rfl
theorem refRiver_eq (r : TRiver) : F_thalwegref01_River r = some (riverOk r) := by
  unfold F_thalwegref01_River
  simp only [In_eq, Option.bind_some]
  cases h1 : inB r.Reaches.length 1 20 with
  | false => simp [riverOk, h1]
  | true =>
    have hl := inB_iff.1 h1
    simp only [Bool.not_true, cond_false]
    by_cases h3 : r.Shoals.length ≤ 40
    · simp only [show decide ((r.Shoals.length : Int) > 40) = false by simp; omega, cond_false]
      rw [show (0 : Int) = ((0 : Nat) : Int) from rfl, loop_list r.Reaches (fun k => (k : Int)) reachOk (e := .inl ()) (f := .inr false)]
      · cases h2 : r.Reaches.all reachOk with
        | false => simp [riverOk, h2]
        | true =>
          have hr : ∀ x ∈ r.Reaches, 0 ≤ x.Length ∧ x.Length ≤ 5000 := fun x hx => reachOk_len (List.all_eq_true.1 h2 x hx)
          have hb := tot_bound hr
          simp only [if_true, Option.bind_some]
          rw [loop_list r.Shoals (fun k => (k : Int)) (shoalOk r) (e := .inl ()) (f := .inr false)]
          · simp only [riverOk, h1, h2, h3, decide_true, Bool.true_and]
            cases r.Shoals.all (shoalOk r) <;> rfl
          · intro k hk
            simp only [L_thalwegref01_River_2, Int.ofNat_lt, hk, decide_true, cond_true, idx?_nat hk, Option.bind_some, Places_eq hr (by omega), In_eq, rvalid_eq, shoalOk]
            rw [wr_nat (by omega), wr_in (n := tot r.Reaches - 1) (by omega) (by omega)]
            exact four _ _ _ _ _ _
          · simp [L_thalwegref01_River_2]
      · intro k hk
        simp only [L_thalwegref01_River_1, Int.ofNat_lt, hk, decide_true, cond_true, idx?_nat hk, Option.bind_some, refReach_eq]
        rw [wr_nat (by omega)]
        cases reachOk r.Reaches[k] <;> rfl
      · simp [L_thalwegref01_River_1]
    · simp only [show decide ((r.Shoals.length : Int) > 40) = true by simp; omega, cond_true, riverOk, h1, h3, decide_false, Bool.true_and, Bool.false_and, Bool.and_false]
end Go.Ev
/- Chapter 1: copies, what is large, levels. -/
set_option linter.unusedVariables false
set_option linter.unusedSimpArgs false
namespace Go.Ev
set_option maxHeartbeats 1000000

def largeOf (r : TRiver) : Bool := decide (r.Reaches.length > 25) || (decide (r.Shoals.length > 50) || !(r.Reaches.all fun x => decide (x.Curve.length ≤ 40)))
theorem large_river {r : TRiver} (hl : r.Reaches.length ≤ 140737488355328) : F_thalweglaw01_large ⟨r, []⟩ = some (largeOf r) := by
  unfold F_thalweglaw01_large
  simp only
  by_cases h1 : r.Reaches.length > 25
  · simp [largeOf, h1, show ((r.Reaches.length : Int) > 25) by omega]
  · simp only [show decide ((r.Reaches.length : Int) > 25) = false by simp; omega, cond_false]
    by_cases h2 : r.Shoals.length > 50
    · simp [largeOf, h2, show ((r.Shoals.length : Int) > 50) by omega]
    · simp only [show decide ((r.Shoals.length : Int) > 50) = false by simp; omega, cond_false, List.length_nil]
      rw [show decide (((0 : Nat) : Int) > 25) = false by decide, cond_false, show (0 : Int) = ((0 : Nat) : Int) from rfl,
        loop_list r.Reaches (fun k => (k : Int)) (fun x => decide (x.Curve.length ≤ 40)) (e := .inl ()) (f := .inr true)]
      · simp only [largeOf, h1, h2, decide_false, Bool.false_or]
        cases hq : r.Reaches.all fun x => decide (x.Curve.length ≤ 40) with
        | false => rfl
        | true =>
          simp only [if_true, Option.bind_some]
          rw [loopC_eq]
          simp [L_thalweglaw01_large_2]
      · intro k hk
        simp only [L_thalweglaw01_large_1, Int.ofNat_lt, hk, decide_true, cond_true, idx?_nat hk, Option.bind_some]
        rw [wr_nat (by omega)]
        by_cases h3 : r.Reaches[k].Curve.length ≤ 40
        · simp [h3, show ¬ ((r.Reaches[k].Curve.length : Int) > 40) by omega]
        · simp [h3, show ((r.Reaches[k].Curve.length : Int) > 40) by omega]
      · simp [L_thalweglaw01_large_1]

theorem copied_eq {r : TRiver} (h1 : r.Reaches.length ≤ 1000000) (h2 : r.Shoals.length ≤ 1000000) (h3 : ∀ x ∈ r.Reaches, x.Curve.length ≤ 1000000) : F_thalweglaw01_copied r = some r := by
  unfold F_thalweglaw01_copied
  simp only
  rw [show ((0 : Int), ([] : List TReach)) = (fun k : Nat => ((k : Int), r.Reaches.take k)) 0 from rfl, loop_run (fun k : Nat => ((k : Int), r.Reaches.take k)) r.Reaches.length (e := r.Reaches)]
  · simp only [Option.bind_some, app_nil (m := r.Shoals) (n := 48) (by omega) (by decide)]
  · intro k hk
    simp only [L_thalweglaw01_copied_1, Int.ofNat_lt, hk, decide_true, cond_true, idx?_nat hk, Option.bind_some]
    have := h3 _ (List.getElem_mem hk)
    rw [app_nil (by omega) (by decide)]
    simp only [Option.bind_some]
    rw [app_of (by simp [Nat.min_eq_left (Nat.le_of_lt hk)]; omega) (by decide), wr_nat (by omega)]
    simp only [Option.bind_some, List.take_succ_eq_append_getElem hk]
  · simp [L_thalweglaw01_copied_1]
theorem unchanged_eq {r : TRiver} (h1 : r.Reaches.length ≤ 1000000) (h2 : r.Shoals.length ≤ 1000000) (h3 : ∀ x ∈ r.Reaches, x.Curve.length ≤ 1000000) : F_thalweglaw01_unchanged (r, r) = some true := by
  unfold F_thalweglaw01_unchanged
  simp only [bne_self_eq_false, cond_false]
  rw [show (0 : Int) = ((0 : Nat) : Int) from rfl, loop_run (fun k : Nat => (k : Int)) r.Reaches.length (e := .inl ())]
  · simp only [Option.bind_some]
    rw [loop_run (fun k : Nat => (k : Int)) r.Shoals.length (e := .inl ())]
    · rfl
    · intro k hk
      simp only [L_thalweglaw01_unchanged_3, Int.ofNat_lt, hk, decide_true, cond_true, idx?_nat hk, Option.bind_some, beq_self_eq_true, Bool.and_self, Bool.not_true, cond_false]
      rw [wr_nat (by omega)]
    · simp [L_thalweglaw01_unchanged_3]
  · intro k hk
    simp only [L_thalweglaw01_unchanged_2, Int.ofNat_lt, hk, decide_true, cond_true, idx?_nat hk, Option.bind_some, beq_self_eq_true, bne_self_eq_false, Bool.and_self, Bool.not_true, cond_false]
    have := h3 _ (List.getElem_mem hk)
    rw [show (0 : Int) = ((0 : Nat) : Int) from rfl, loop_run (fun j : Nat => (j : Int)) r.Reaches[k].Curve.length (e := .inl ())]
    · simp only [Option.bind_some]
      rw [wr_nat (by omega)]
    · intro j hj
      simp only [L_thalweglaw01_unchanged_1, Int.ofNat_lt, hj, decide_true, cond_true, idx?_nat hj, Option.bind_some, beq_self_eq_true, Bool.and_self, Bool.not_true, cond_false]
      rw [wr_nat (by omega)]
    · simp [L_thalweglaw01_unchanged_1]
  · simp [L_thalweglaw01_unchanged_2]
end Go.Ev
/- Chapter 1: levels. -/
set_option linter.unusedVariables false
set_option linter.unusedSimpArgs false
namespace Go.Ev
set_option maxHeartbeats 1000000

theorem tdiv_tmod {a b : Int} (hb : 0 < b) : b * a.tdiv b + a.tmod b = a ∧ -b < a.tmod b ∧ a.tmod b < b ∧ (0 ≤ a → 0 ≤ a.tmod b) ∧ (a ≤ 0 → a.tmod b ≤ 0) := by
  refine ⟨Int.mul_tdiv_add_tmod a b, ?_, ?_, ?_, ?_⟩
  · rcases Int.le_total 0 a with h | h
    · have := Int.tmod_nonneg b h; omega
    · have h1 := Int.tmod_nonneg b (a := -a) (by omega)
      have h2 := Int.tmod_lt_of_pos (-a) hb
      rw [Int.neg_tmod] at h1 h2; omega
  · exact Int.tmod_lt_of_pos a hb
  · exact fun h => Int.tmod_nonneg b h
  · intro h
    have h1 := Int.tmod_nonneg b (a := -a) (by omega)
    rw [Int.neg_tmod] at h1; omega
theorem tdiv_le {a b : Int} (hb : 0 < b) : -a.natAbs ≤ a.tdiv b ∧ a.tdiv b ≤ a.natAbs := by
  have h : (a.tdiv b).natAbs ≤ a.natAbs := by
    rw [Int.natAbs_tdiv]; exact Nat.div_le_self _ _
  omega
theorem div_of {a b q r : Int} (hb : 0 < b) (h : r + b * q = a) (h0 : 0 ≤ r) (h1 : r < b) : a / b = q := ((Int.ediv_emod_unique hb).2 ⟨h, h0, h1⟩).1

theorem Down_eq {a b : Int} (hb : 0 < b) (ha : a.natAbs ≤ 4611686018427387904) : F_numbers_Down (a, b) = some (a / b) := by
  obtain ⟨h1, h2, h3, h4, h5⟩ := tdiv_tmod (a := a) hb
  have h6 := tdiv_le (a := a) hb
  simp only [F_numbers_Down, nz_of (show b ≠ 0 by omega), Option.bind_some]
  rw [wr_in (n := a.tdiv b) (by omega) (by omega)]
  by_cases c : a.tmod b < 0
  · rw [wr_in (n := a.tdiv b - 1) (by omega) (by omega), div_of (q := a.tdiv b - 1) (r := a.tmod b + b) hb (by rw [Int.mul_sub]; omega) (by omega) (by omega)]
    simp [c]
  · rw [div_of (q := a.tdiv b) (r := a.tmod b) hb (by omega) (by omega) (by omega)]
    simp [c]
theorem div_bound {a b : Int} (hb : 0 < b) : -a.natAbs ≤ a / b ∧ a / b ≤ a.natAbs := by
  have := Int.natAbs_ediv_le_natAbs a b
  omega
theorem Up_eq {a b : Int} (hb : 0 < b) (ha : a.natAbs ≤ 4611686018427387904) : F_numbers_Up (a, b) = some (-((-a) / b)) := by
  have h := div_bound (a := -a) hb
  simp only [F_numbers_Up]
  rw [wr_in (n := 0 - a) (by omega) (by omega), show 0 - a = -a by omega, Down_eq hb (by omega)]
  simp only [Option.bind_some]
  rw [wr_in (by omega) (by omega)]
  simp
theorem Floor_eq {a b : Int} (hb : 0 < b) (ha : a.natAbs ≤ 4611686018427387904) : F_thalwegref01_Floor (a, b) = some (a / b) := by
  obtain ⟨h1, h2, h3, h4, h5⟩ := tdiv_tmod (a := a) hb
  have h6 := tdiv_le (a := a) hb
  have hq : a.tdiv b * b = a - a.tmod b := by rw [Int.mul_comm]; omega
  have hr : (a.tmod b).natAbs ≤ a.natAbs := by rw [Int.natAbs_tmod]; exact Nat.mod_le _ _
  simp only [F_thalwegref01_Floor, nz_of (show b ≠ 0 by omega), Option.bind_some]
  rw [wr_in (n := a.tdiv b) (by omega) (by omega), hq, wr_in (n := a - a.tmod b) (by omega) (by omega)]
  by_cases c : a.tmod b < 0
  · rw [wr_in (n := a.tdiv b - 1) (by omega) (by omega), div_of (q := a.tdiv b - 1) (r := a.tmod b + b) hb (by rw [Int.mul_sub]; omega) (by omega) (by omega)]
    simp [show a - a.tmod b > a by omega]
  · rw [div_of (q := a.tdiv b) (r := a.tmod b) hb (by omega) (by omega) (by omega)]
    simp [show ¬ (a - a.tmod b > a) by omega]
theorem Ceil_eq {a b : Int} (hb : 0 < b) (ha : a.natAbs ≤ 4611686018427387904) : F_thalwegref01_Ceil (a, b) = some (-((-a) / b)) := by
  obtain ⟨h1, h2, h3, h4, h5⟩ := tdiv_tmod (a := a) hb
  have h6 := tdiv_le (a := a) hb
  have hq : a.tdiv b * b = a - a.tmod b := by rw [Int.mul_comm]; omega
  have hr : (a.tmod b).natAbs ≤ a.natAbs := by rw [Int.natAbs_tmod]; exact Nat.mod_le _ _
  simp only [F_thalwegref01_Ceil, nz_of (show b ≠ 0 by omega), Option.bind_some]
  rw [wr_in (n := a.tdiv b) (by omega) (by omega), hq, wr_in (n := a - a.tmod b) (by omega) (by omega)]
  by_cases c : 0 < a.tmod b
  · rw [wr_in (n := a.tdiv b + 1) (by omega) (by omega), div_of (a := -a) (q := -(a.tdiv b + 1)) (r := b - a.tmod b) hb (by rw [Int.mul_neg, Int.mul_add]; omega) (by omega) (by omega)]
    simp [show a - a.tmod b < a by omega]
  · rw [div_of (a := -a) (q := -(a.tdiv b)) (r := -a.tmod b) hb (by rw [Int.mul_neg]; omega) (by omega) (by omega)]
    simp [show ¬ (a - a.tmod b < a) by omega]

/-- The first row whose flow is not less. -/
def firstAt (l : List TRateRow) (n : Int) : Nat := l.findIdx fun x => decide (n ≤ x.Flow)
theorem first_lt {l : List TRateRow} {n : Int} {k : Nat} (h : k < firstAt l n) (hk : k < l.length) : l[k].Flow < n := by
  have := List.not_of_lt_findIdx h
  simp at this
  exact this
theorem first_at {l : List TRateRow} {n : Int} (h : firstAt l n < l.length) : n ≤ l[firstAt l n].Flow := by
  have := List.findIdx_getElem (p := fun x : TRateRow => decide (n ≤ x.Flow)) (xs := l) (w := h)
  exact of_decide_eq_true this
theorem first_le (l : List TRateRow) (n : Int) : firstAt l n ≤ l.length := List.findIdx_le_length
theorem index_eq {l : List TRateRow} {n : Int} {g : FuncId} {caps : List V} (hl : l.length ≤ 4611686018427387904) : F_slices_IndexFunc_RateRow_RateRow (l, (fun q => F_river_curveAt_1 (q, n)), g, caps) = some (if firstAt l n < l.length then (firstAt l n : Int) else -1) := by
  unfold F_slices_IndexFunc_RateRow_RateRow
  simp only
  have hle := first_le l n
  by_cases c : firstAt l n < l.length
  · rw [show (0 : Int) = ((0 : Nat) : Int) from rfl, loop_run (fun k : Nat => (k : Int)) (firstAt l n) (e := .inr (firstAt l n : Int))]
    · simp [c]
    · intro k hk
      have hkl : k < l.length := by omega
      have := first_lt hk hkl
      simp only [L_slices_IndexFunc_RateRow_RateRow_1, Int.ofNat_lt, hkl, decide_true, cond_true, idx?_nat hkl, Option.bind_some, F_river_curveAt_1, show decide (n ≤ l[k].Flow) = false by simp; omega, cond_false]
      rw [wr_nat (by omega)]
    · have := first_at c
      simp only [L_slices_IndexFunc_RateRow_RateRow_1, Int.ofNat_lt, c, decide_true, cond_true, idx?_nat c, Option.bind_some, F_river_curveAt_1, this]
  · rw [show (0 : Int) = ((0 : Nat) : Int) from rfl, loop_run (fun k : Nat => (k : Int)) l.length (e := .inl ())]
    · simp [c]
    · intro k hkl
      have := first_lt (n := n) (show k < firstAt l n by omega) hkl
      simp only [L_slices_IndexFunc_RateRow_RateRow_1, Int.ofNat_lt, hkl, decide_true, cond_true, idx?_nat hkl, Option.bind_some, F_river_curveAt_1, show decide (n ≤ l[k].Flow) = false by simp; omega, cond_false]
      rw [wr_nat (by omega)]
    · simp [L_slices_IndexFunc_RateRow_RateRow_1]

theorem flows_up {l : List TRateRow} (h : (pairs l).all pairOk = true) : ∀ {a b : Nat} (hab : a < b) (hb : b < l.length), l[a].Flow < l[b].Flow := by
  have one : ∀ a (ha : a + 1 < l.length), l[a].Flow < l[a + 1].Flow := by
    intro a ha
    have hp : a < (pairs l).length := by rw [pairs_length]; omega
    have := List.all_eq_true.1 h _ (List.getElem_mem hp)
    rw [pairs_get] at this
    simp only [pairOk, Bool.and_eq_true, decide_eq_true_eq] at this
    exact this.1
  intro a b hab hb
  induction b with
  | zero => omega
  | succ b ih =>
    have h1 := one b hb
    by_cases c : a = b
    · subst c; exact h1
    · have := ih (by omega) (by omega)
      omega
theorem levels_up {l : List TRateRow} (h : (pairs l).all pairOk = true) {a : Nat} (ha : a + 1 < l.length) : l[a].Level ≤ l[a + 1].Level := by
  have hp : a < (pairs l).length := by rw [pairs_length]; omega
  have := List.all_eq_true.1 h _ (List.getElem_mem hp)
  rw [pairs_get] at this
  simp only [pairOk, Bool.and_eq_true, decide_eq_true_eq] at this
  exact this.2
theorem row_in {l : List TRateRow} (h : l.all rowOk = true) {a : Nat} (ha : a < l.length) : 0 ≤ l[a].Flow ∧ l[a].Flow ≤ 10000000000 ∧ 0 ≤ l[a].Level ∧ l[a].Level ≤ 10000 := by
  have := List.all_eq_true.1 h _ (List.getElem_mem ha)
  simp only [rowOk, Bool.and_eq_true, inB_iff] at this
  omega

/-- The level at a flow, rounded down, or up. -/
def divB (up : Bool) (a b : Int) : Int := if up then -((-a) / b) else a / b
def levelOf (l : List TRateRow) (n : Int) (up : Bool) : Int :=
  let i := firstAt l n
  match l[i]?, l[i - 1]? with
  | some y, some x => if i = 0 then y.Level else x.Level + divB up ((y.Level - x.Level) * (n - x.Flow)) (y.Flow - x.Flow)
  | none, some x => x.Level
  | _, none => 0

theorem mul_small {a b : Int} (ha : 0 ≤ a) (ha' : a ≤ 10000) (hb : 0 ≤ b) (hb' : b ≤ 10000000000) : 0 ≤ a * b ∧ a * b ≤ 100000000000000 := by
  refine ⟨Int.mul_nonneg ha hb, ?_⟩
  have h1 : a * b ≤ 10000 * b := Int.mul_le_mul_of_nonneg_right ha' hb
  omega
theorem div_small {a b : Int} (hb : 0 < b) (h0 : 0 ≤ a) (h1 : a ≤ 100000000000000) (up : Bool) : -100000000000000 ≤ divB up a b ∧ divB up a b ≤ 100000000000000 := by
  unfold divB
  have h2 := div_bound (a := a) hb
  have h3 := div_bound (a := -a) hb
  split <;> omega
theorem div_exact {a b : Int} (hb : 0 < b) (up : Bool) : divB up (a * b) b = a := by
  unfold divB
  split
  · rw [← Int.neg_mul, Int.mul_ediv_cancel _ (by omega)]; omega
  · exact Int.mul_ediv_cancel _ (by omega)

theorem curveAt_eq {l : List TRateRow} {n : Int} {p : Int × Int → Option Int} {g : FuncId} {caps : List V} {up : Bool} (hc : curveOk l = true) (hp : ∀ a b : Int, 0 < b → a.natAbs ≤ 4611686018427387904 → p (a, b) = some (divB up a b)) : F_river_curveAt (l, n, p, g, caps) = some (levelOf l n up) := by
  simp only [curveOk, Bool.and_eq_true, inB_iff] at hc
  obtain ⟨hl, hps, hrs⟩ := hc
  have hle := first_le l n
  simp only [F_river_curveAt]
  rw [index_eq (by omega)]
  simp only [Option.bind_some]
  by_cases c : firstAt l n < l.length
  · rw [if_pos c]
    simp only [show decide ((firstAt l n : Int) < 0) = false by simp, cond_false]
    by_cases c0 : firstAt l n = 0
    · rw [c0]
      simp only [show (((0 : Nat) : Int) == 0) = true by decide, cond_true]
      rw [show (0 : Int) = ((0 : Nat) : Int) from rfl, idx?_nat (show 0 < l.length by omega)]
      simp [levelOf, c0, show 0 < l.length by omega]
    · simp only [show ((firstAt l n : Int) == 0) = false by simp; omega, cond_false]
      have ci : firstAt l n - 1 < l.length := by omega
      rw [wr_in (n := (firstAt l n : Int) - 1) (by omega) (by omega), show ((firstAt l n : Int) - 1) = ((firstAt l n - 1 : Nat) : Int) by omega, idx?_nat ci, idx?_nat c]
      simp only [Option.bind_some, levelOf, List.getElem?_eq_getElem c, List.getElem?_eq_getElem ci, c0, if_false]
      have r1 := row_in hrs ci
      have r2 := row_in hrs c
      have f1 := first_lt (n := n) (show firstAt l n - 1 < firstAt l n by omega) ci
      have f2 := first_at c
      have lv := levels_up hps (a := firstAt l n - 1) (by omega)
      simp only [show firstAt l n - 1 + 1 = firstAt l n by omega] at lv
      rw [wr_in (n := l[firstAt l n].Level - l[firstAt l n - 1].Level) (by omega) (by omega), wr_in (n := n - l[firstAt l n - 1].Flow) (by omega) (by omega), wr_in (n := l[firstAt l n].Flow - l[firstAt l n - 1].Flow) (by omega) (by omega)]
      have hm := mul_small (a := l[firstAt l n].Level - l[firstAt l n - 1].Level) (b := n - l[firstAt l n - 1].Flow) (by omega) (by omega) (by omega) (by omega)
      rw [wr_in (by omega) (by omega), hp _ _ (by omega) (by omega)]
      have hd := div_small (b := l[firstAt l n].Flow - l[firstAt l n - 1].Flow) (by omega) hm.1 hm.2 up
      simp only [Option.bind_some]
      rw [wr_in (by omega) (by omega)]
  · rw [if_neg c]
    have ce : firstAt l n = l.length := by omega
    have ci : l.length - 1 < l.length := by omega
    simp only [show decide ((-1 : Int) < 0) = true by decide, cond_true]
    rw [wr_in (by omega) (by omega), show ((l.length : Int) - 1) = ((l.length - 1 : Nat) : Int) by omega, idx?_nat ci]
    simp [levelOf, ce, ci]

theorem refCurve_eq {x : TReach} {n : Int} {up : Bool} (hc : curveOk x.Curve = true) : F_thalwegref01_Curve (x, n, up) = some (levelOf x.Curve n up) := by
  simp only [curveOk, Bool.and_eq_true, inB_iff] at hc
  obtain ⟨hl, hps, hrs⟩ := hc
  have hle := first_le x.Curve n
  have c1 : x.Curve.length - 1 < x.Curve.length := by omega
  have c0 : 0 < x.Curve.length := by omega
  simp only [F_thalwegref01_Curve]
  rw [wr_in (n := (x.Curve.length : Int) - 1) (by omega) (by omega), show ((x.Curve.length : Int) - 1) = ((x.Curve.length - 1 : Nat) : Int) by omega, idx?_nat c1]
  rw [show (0 : Int) = ((0 : Nat) : Int) from rfl, idx?_nat c0]
  simp only [Option.bind_some]
  by_cases h0 : n ≤ x.Curve[0].Flow
  · have hi : firstAt x.Curve n = 0 := by
      rcases Nat.eq_zero_or_pos (firstAt x.Curve n) with e | e
      · exact e
      · have := first_lt e c0; omega
    simp [h0, levelOf, hi, c0]
  · simp only [h0, decide_false, cond_false]
    have hi : 0 < firstAt x.Curve n := by
      rcases Nat.eq_zero_or_pos (firstAt x.Curve n) with e | e
      · have := first_at (l := x.Curve) (n := n) (by omega); simp only [e] at this; omega
      · exact e
    by_cases hL : n ≥ x.Curve[x.Curve.length - 1].Flow
    · simp only [hL, decide_true, cond_true, Option.some.injEq]
      by_cases c : firstAt x.Curve n < x.Curve.length
      · have f2 := first_at c
        have he : firstAt x.Curve n = x.Curve.length - 1 := by
          rcases Nat.lt_or_ge (firstAt x.Curve n) (x.Curve.length - 1) with e | e
          · have := flows_up hps e c1; omega
          · omega
        have ci : firstAt x.Curve n - 1 < x.Curve.length := by omega
        have f1 := first_lt (n := n) (show firstAt x.Curve n - 1 < firstAt x.Curve n by omega) ci
        simp only [levelOf, List.getElem?_eq_getElem c, List.getElem?_eq_getElem ci, show ¬ firstAt x.Curve n = 0 by omega, if_false]
        have hn : n = x.Curve[firstAt x.Curve n].Flow := by simp only [he] at f2 ⊢; omega
        have f3 : x.Curve[firstAt x.Curve n - 1].Flow < x.Curve[firstAt x.Curve n].Flow := by omega
        have hx := div_exact (a := x.Curve[firstAt x.Curve n].Level - x.Curve[firstAt x.Curve n - 1].Level) (b := x.Curve[firstAt x.Curve n].Flow - x.Curve[firstAt x.Curve n - 1].Flow) (by omega) up
        rw [show n - x.Curve[firstAt x.Curve n - 1].Flow = x.Curve[firstAt x.Curve n].Flow - x.Curve[firstAt x.Curve n - 1].Flow by omega, hx]
        simp only [he]
        omega
      · have ce : firstAt x.Curve n = x.Curve.length := by omega
        simp [levelOf, ce, c1]
    · simp only [hL, decide_false, cond_false]
      have c : firstAt x.Curve n < x.Curve.length := by
        rcases Nat.lt_or_ge (firstAt x.Curve n) x.Curve.length with e | e
        · exact e
        · have := first_lt (n := n) (show x.Curve.length - 1 < firstAt x.Curve n by omega) c1; omega
      have ci : firstAt x.Curve n - 1 < x.Curve.length := by omega
      rw [loop_run (fun k : Nat => (k : Int)) (firstAt x.Curve n - 1) (e := ((firstAt x.Curve n - 1 : Nat) : Int))]
      · simp only [Option.bind_some, idx?_nat ci]
        rw [wr_nat (by omega), show firstAt x.Curve n - 1 + 1 = firstAt x.Curve n by omega, idx?_nat c]
        simp only [Option.bind_some, levelOf, List.getElem?_eq_getElem c, List.getElem?_eq_getElem ci, show ¬ firstAt x.Curve n = 0 by omega, if_false]
        have r1 := row_in hrs ci
        have r2 := row_in hrs c
        have f1 := first_lt (n := n) (show firstAt x.Curve n - 1 < firstAt x.Curve n by omega) ci
        have f2 := first_at c
        have lv := levels_up hps (a := firstAt x.Curve n - 1) (by omega)
        simp only [show firstAt x.Curve n - 1 + 1 = firstAt x.Curve n by omega] at lv
        rw [wr_in (n := x.Curve[firstAt x.Curve n].Level - x.Curve[firstAt x.Curve n - 1].Level) (by omega) (by omega), wr_in (n := n - x.Curve[firstAt x.Curve n - 1].Flow) (by omega) (by omega), wr_in (n := x.Curve[firstAt x.Curve n].Flow - x.Curve[firstAt x.Curve n - 1].Flow) (by omega) (by omega)]
        have hm := mul_small (a := x.Curve[firstAt x.Curve n].Level - x.Curve[firstAt x.Curve n - 1].Level) (b := n - x.Curve[firstAt x.Curve n - 1].Flow) (by omega) (by omega) (by omega) (by omega)
        rw [Int.mul_comm (n - x.Curve[firstAt x.Curve n - 1].Flow), wr_in (n := (x.Curve[firstAt x.Curve n].Level - x.Curve[firstAt x.Curve n - 1].Level) * (n - x.Curve[firstAt x.Curve n - 1].Flow)) (by omega) (by omega), Ceil_eq (by omega) (by omega), Floor_eq (by omega) (by omega)]
        have hd := div_small (b := x.Curve[firstAt x.Curve n].Flow - x.Curve[firstAt x.Curve n - 1].Flow) (by omega) hm.1 hm.2 up
        cases up with
        | true => simp only [divB, if_true] at hd ⊢; simp only [cond_true, Option.bind_some]; rw [wr_in (by omega) (by omega)]
        | false => simp only [divB, Bool.false_eq_true, if_false] at hd ⊢; simp only [cond_false, Option.bind_some]; rw [wr_in (by omega) (by omega)]
      · intro k hk
        have hk1 : k + 1 < x.Curve.length := by omega
        have := first_lt (n := n) (show k + 1 < firstAt x.Curve n by omega) hk1
        simp only [L_thalwegref01_Curve_1]
        rw [wr_nat (by omega), idx?_nat hk1]
        simp only [Option.bind_some, this, decide_true, cond_true]
      · have := first_at c
        simp only [L_thalwegref01_Curve_1]
        rw [wr_nat (by omega), show firstAt x.Curve n - 1 + 1 = firstAt x.Curve n by omega, idx?_nat c]
        simp only [Option.bind_some, show decide (x.Curve[firstAt x.Curve n].Flow < n) = false by simp; omega, cond_false]
end Go.Ev
/- Chapter 1: the law RiverChecks is true. -/
set_option linter.unusedVariables false
set_option linter.unusedSimpArgs false
namespace Go.Ev
set_option maxHeartbeats 1000000

def levB (x : TReach) (b : TBounds) : TBounds := ⟨minmax true (levelOf x.Curve b.Low false) x.Weir, minmax true (levelOf x.Curve b.High true) x.Weir⟩
theorem minmax_comm (a b : Int) : minmax true a b = minmax true b a := by
  simp only [minmax, if_true]
  split <;> split <;> omega
theorem levelAt_eq {x : TReach} {b : TBounds} (h : curveOk x.Curve = true) : F_river_levelAt (x, b) = some (levB x b) := by
  simp only [F_river_levelAt]
  rw [curveAt_eq (up := false) h (fun a b hb ha => by simpa [divB] using Down_eq hb ha), curveAt_eq (up := true) h (fun a b hb ha => by simpa [divB] using Up_eq hb ha)]
  rfl
theorem refLevel_eq {x : TReach} {b : TBounds} (h : curveOk x.Curve = true) : F_thalwegref01_Level (x, b) = some (levB x b) := by
  simp only [F_thalwegref01_Level, refCurve_eq h, Option.bind_some, levB]
  rw [minmax_comm x.Weir, minmax_comm x.Weir]
theorem reachOk_curve {x : TReach} (h : reachOk x = true) : curveOk x.Curve = true := by
  simp only [reachOk, Bool.and_eq_true] at h
  exact h.2.2.2.2.2
theorem Level_eq (x : TReach) (b : TBounds) : F_river_Level (x, b) = some (if reachOk x then (if vB b 0 210000000000 then (levB x b, 0) else (⟨0, 0⟩, 3)) else (⟨0, 0⟩, 2)) := by
  simp only [F_river_Level, validReach_eq, Option.bind_some, valid_eq]
  cases h : reachOk x with
  | false => rfl
  | true =>
    simp only [Bool.not_true, cond_false, if_true]
    cases vB b 0 210000000000 with
    | false => rfl
    | true => simp only [Bool.not_true, cond_false, if_true, levelAt_eq (reachOk_curve h), Option.bind_some]

theorem checks_true {r : TRiver} {x : TReach} {b : TBounds} (h1 : r.Reaches.length ≤ 140737488355328) (h2 : x.Curve.length ≤ 140737488355328) : F_thalweglaw01_RiverChecks (r, x, b) = some true := by
  simp only [F_thalweglaw01_RiverChecks, large_river h1, Option.bind_some]
  cases hL : largeOf r with
  | true => rfl
  | false =>
    simp only [largeOf, Bool.or_eq_false_iff, decide_eq_false_iff_not, Bool.not_eq_false', List.all_eq_true, decide_eq_true_eq] at hL
    obtain ⟨l1, l2, l3⟩ := hL
    simp only [cond_false]
    by_cases hx : x.Curve.length ≤ 40
    · have hc : F_thalweglaw01_copied r = some r := copied_eq (by omega) (by omega) fun y hy => by have := l3 y hy; omega
      have hu : F_thalweglaw01_unchanged (r, r) = some true := unchanged_eq (by omega) (by omega) fun y hy => by have := l3 y hy; omega
      simp only [show decide ((x.Curve.length : Int) > 40) = false by simp; omega, cond_false, hc, Option.bind_some, Check_eq, refRiver_eq, hu, app_nil (m := x.Curve) (n := 16) (by omega) (by decide), Level_eq, refReach_eq, rvalid_eq, Bool.not_true]
      cases riverOk r <;> cases hr : reachOk x
      · rfl
      · cases vB b 0 210000000000
        · rfl
        · simp [refLevel_eq (reachOk_curve hr), F_thalweglaw01_known]
      · rfl
      · cases vB b 0 210000000000
        · rfl
        · simp [refLevel_eq (reachOk_curve hr), F_thalweglaw01_known]
    · simp only [show decide ((x.Curve.length : Int) > 40) = true by simp; omega, cond_true]
      rfl
end Go.Ev
/- The law RiverChecks, by what is known of its arguments. -/
set_option linter.unusedVariables false
namespace Go.Ev
theorem checks_law {r : TRiver} {x : TReach} {b : TBounds} (h1 : kTRiver r) (h2 : kTReach x) (h3 : kTBounds b) : F_thalweglaw01_RiverChecks (r, x, b) = some true := checks_true h1.1.1 h2.2.2.2.1.1
end Go.Ev
