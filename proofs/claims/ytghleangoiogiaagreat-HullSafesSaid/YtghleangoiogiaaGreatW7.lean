/- A part of the proof of HullSafes. -/
import Derived.Test.YtghleangoiogiaaGreatW6
/- The functions do what is said. -/
set_option linter.unusedVariables false
set_option linter.unusedSimpArgs false
namespace Go.Ev
open Go.Proofs
set_option maxHeartbeats 8000000
set_option maxRecDepth 100000
@[reducible] noncomputable def c_hull_length : Con := conF F_hull_length (fun x => match x with | (a0) => [(V.sl (recs eTHullSection (a0)) (a0).length)]) (fun r => (V.v (.int .i64 (r))))
theorem h_hull_length : Has Tryz.prog 62 c_hull_length := by
  refine hasF ctx_nil mix Tryz.func62 rfl (by kernel_rfl) ?_
  rintro a0 r hF
  refine ⟨of_decide_eq_true rfl, ?_⟩
  refine st1 ?_
  refine st_loopF (e_assoc hF) () [] ⟨sT, sS, by rfl, by rfl⟩ ?_
  · rintro n ⟨_, _⟩ _ x hx1 hF
    (conv => arg 7; whnf); (conv => arg 8; whnf); (conv => arg 9; whnf)
    refine st1 ?_
    rcases e_bif hF with ⟨hb3, hF⟩ | ⟨hb3, hF⟩ <;> (first | rw [hb3] | (conv => arg 7; rw [hb3]) | (conv => arg 9; rw [hb3]))
    · refine st1 ?_
      obtain ⟨_, h, hF⟩ := e_bind hF
      (first | refine o_ia (enc := eTHullSection) (s := 5) h (fun _ => rfl) (by decide) ?_ | refine o_iaT (enc := eTHullSection) (s := 5) h (fun _ => rfl) (by decide) ?_)
      intro _
      refine st1 ?_
      exact k_loopF (e_some hF) hx1 () [] ⟨sT, sS, by rfl, by rfl⟩
    · refine st1 ?_
      have hF := e_some hF
      have hq : some _ = some _ := hF
      cases hq
      exact en1


@[reducible] noncomputable def c_hull_validCurve : Con := conF F_hull_validCurve (fun x => match x with | (a0) => [(V.sl (recs eTHullRow (a0)) (a0).length)]) (fun r => (V.v (.bool (r))))
theorem fl_hull_validCurve_105 : flatOf Tryz.prog 9 105 = some [true, true] := by kernel_rfl
theorem eg_hull_validCurve_105 : Tryz.prog.eqGuardType Tryz.prog.depth 105 = false := by kernel_rfl
theorem ag_hull_validCurve_105 : aggOf Tryz.prog 105 = some true := by kernel_rfl
theorem h_hull_validCurve : Has Tryz.prog 101 c_hull_validCurve := by
  refine hasF (ctx_cons h_numbers_Within ctx_nil) mix Tryz.func101 rfl (by kernel_rfl) ?_
  rintro a0 r hF
  refine ⟨of_decide_eq_true rfl, ?_⟩
  refine st1 ?_
  obtain ⟨_, h, hF⟩ := e_bind hF
  (first | refine g_call h lv1 ?_ | refine g_callT h lv1 ?_)
  (conv => arg 1; whnf)
  refine st1 ?_
  rcases e_bif hF with ⟨hb1, hF⟩ | ⟨hb1, hF⟩ <;> (first | rw [hb1] | (conv => arg 7; rw [hb1]) | (conv => arg 9; rw [hb1]))
  · refine st1 ?_
    have hq : some _ = some _ := hF
    cases hq
    exact en1
  · refine st1 ?_
    obtain ⟨_, h, hF⟩ := e_bind hF
    (first | refine o_ia (enc := eTHullRow) (s := 2) h (fun _ => rfl) (by decide) ?_ | refine o_iaT (enc := eTHullRow) (s := 2) h (fun _ => rfl) (by decide) ?_)
    intro _
    refine st1 ?_
    rw [fl_hull_validCurve_105, eg_hull_validCurve_105, ag_hull_validCurve_105]
    (conv => arg 1; whnf)
    refine st1 ?_
    rcases e_bif hF with ⟨hb2, hF⟩ | ⟨hb2, hF⟩ <;> (first | rw [hb2] | (conv => arg 7; rw [hb2]) | (conv => arg 9; rw [hb2]))
    · refine st1 ?_
      have hq : some _ = some _ := hF
      cases hq
      exact en1
    · refine st1 ?_
      refine st_loopF (e_assoc hF) () [] ⟨sT, sS, by rfl, by rfl⟩ ?_
      · rintro n _ _ x hx1 hF
        (conv => arg 7; whnf); (conv => arg 8; whnf); (conv => arg 9; whnf)
        refine st1 ?_
        rcases e_bif hF with ⟨hb9, hF⟩ | ⟨hb9, hF⟩ <;> (first | rw [hb9] | (conv => arg 7; rw [hb9]) | (conv => arg 9; rw [hb9]))
        · refine st1 ?_
          obtain ⟨_, h, hF⟩ := e_bind hF
          (first | refine o_ia (enc := eTHullRow) (s := 2) h (fun _ => rfl) (by decide) ?_ | refine o_iaT (enc := eTHullRow) (s := 2) h (fun _ => rfl) (by decide) ?_)
          intro _
          refine st1 ?_
          obtain ⟨_, h, hF⟩ := e_bind hF
          (first | refine o_ia (enc := eTHullRow) (s := 2) h (fun _ => rfl) (by decide) ?_ | refine o_iaT (enc := eTHullRow) (s := 2) h (fun _ => rfl) (by decide) ?_)
          intro _
          refine st1 ?_
          rcases e_bif hF with ⟨hb10, hF⟩ | ⟨hb10, hF⟩ <;> (first | rw [hb10] | (conv => arg 7; rw [hb10]) | (conv => arg 9; rw [hb10]))
          · refine st1 ?_
            have hF := e_some hF
            have hq : some _ = some _ := hF
            cases hq
            exact en1
          · refine st1 ?_
            obtain ⟨_, h, hF⟩ := e_bind hF
            (first | refine o_ia (enc := eTHullRow) (s := 2) h (fun _ => rfl) (by decide) ?_ | refine o_iaT (enc := eTHullRow) (s := 2) h (fun _ => rfl) (by decide) ?_)
            intro _
            refine st1 ?_
            obtain ⟨_, h, hF⟩ := e_bind hF
            (first | refine o_ia (enc := eTHullRow) (s := 2) h (fun _ => rfl) (by decide) ?_ | refine o_iaT (enc := eTHullRow) (s := 2) h (fun _ => rfl) (by decide) ?_)
            intro _
            refine st1 ?_
            rcases e_bif hF with ⟨hb11, hF⟩ | ⟨hb11, hF⟩ <;> (first | rw [hb11] | (conv => arg 7; rw [hb11]) | (conv => arg 9; rw [hb11]))
            · refine st1 ?_
              have hF := e_some hF
              have hq : some _ = some _ := hF
              cases hq
              exact en1
            · refine st1 ?_
              exact k_loopF (e_some hF) hx1 () [] ⟨sT, sS, by rfl, by rfl⟩
        · refine st1 ?_
          have hF := e_some hF
          obtain ⟨_, h, hF⟩ := e_bind hF
          (first | refine o_ia (enc := eTHullRow) (s := 2) h (fun _ => rfl) (by decide) ?_ | refine o_iaT (enc := eTHullRow) (s := 2) h (fun _ => rfl) (by decide) ?_)
          intro _
          refine st1 ?_
          rcases e_bif hF with ⟨hb12, hF⟩ | ⟨hb12, hF⟩ <;> (first | rw [hb12] | (conv => arg 7; rw [hb12]) | (conv => arg 9; rw [hb12]))
          · refine st1 ?_
            have hq : some _ = some _ := hF
            cases hq
            exact en1
          · refine st1 ?_
            have hq : some _ = some _ := hF
            cases hq
            exact en1


@[reducible] noncomputable def c_hull_validSection_1 : Con := conF F_hull_validSection_1 (fun x => match x with | (a0, c0) => [(V.agg (eTHullHold a0)), (V.fptr [(V.v (.int .i64 (c0.Length))), (V.v (.int .i64 (c0.Light))), (V.v (.int .i64 (c0.Trim))), (V.sl (recs eTHullRow (c0.Curve)) (c0.Curve).length), (V.sl (recs eTHullHold (c0.Holds)) (c0.Holds).length)])]) (fun r => (V.v (.bool (r))))
theorem h_hull_validSection_1 : Has Tryz.prog 103 c_hull_validSection_1 := by
  refine hasF (ctx_cons h_numbers_Within ctx_nil) mix Tryz.func103 rfl (by kernel_rfl) ?_
  rintro ⟨a0, c0⟩ r hF
  refine ⟨of_decide_eq_true rfl, ?_⟩
  refine st1 ?_
  obtain ⟨_, h, hF⟩ := e_bind hF
  (first | refine g_call h lv1 ?_ | refine g_callT h lv1 ?_)
  (conv => arg 1; whnf)
  refine st1 ?_
  rcases e_bif hF with ⟨hb1, hF⟩ | ⟨hb1, hF⟩ <;> (first | rw [hb1] | (conv => arg 7; rw [hb1]) | (conv => arg 9; rw [hb1]))
  · refine st1 ?_
    obtain ⟨_, h, hF⟩ := e_bind hF
    (first | refine g_call h lv1 ?_ | refine g_callT h lv1 ?_)
    (conv => arg 1; whnf)
    refine st1 ?_
    have hq : some _ = some _ := hF
    cases hq
    exact en1
  · refine st1 ?_
    have hq : some _ = some _ := hF
    cases hq
    exact en1


@[reducible] noncomputable def c_hull_validSection : Con := conF F_hull_validSection (fun x => match x with | (a0) => [(V.agg (eTHullSection a0))]) (fun r => (V.v (.bool (r))))
theorem h_hull_validSection : Has Tryz.prog 73 c_hull_validSection := by
  refine hasF (ctx_cons (h_numbers_Every_HullHold (ctx_cons h_hull_validSection_1 ctx_nil)) (ctx_cons h_hull_validCurve (ctx_cons h_numbers_Within ctx_nil))) mix Tryz.func73 rfl (by kernel_rfl) ?_
  rintro a0 r hF
  refine ⟨of_decide_eq_true rfl, ?_⟩
  refine st1 ?_
  obtain ⟨_, h, hF⟩ := e_bind hF
  (first | refine g_call h lv1 ?_ | refine g_callT h lv1 ?_)
  (conv => arg 1; whnf)
  refine st1 ?_
  rcases e_bif hF with ⟨hb1, hF⟩ | ⟨hb1, hF⟩ <;> (first | rw [hb1] | (conv => arg 7; rw [hb1]) | (conv => arg 9; rw [hb1]))
  · refine st1 ?_
    obtain ⟨_, h, hF⟩ := e_bind hF
    (first | refine g_call h lv1 ?_ | refine g_callT h lv1 ?_)
    (conv => arg 1; whnf)
    refine st1 ?_
    rcases e_bif hF with ⟨hb2, hF⟩ | ⟨hb2, hF⟩ <;> (first | rw [hb2] | (conv => arg 7; rw [hb2]) | (conv => arg 9; rw [hb2]))
    · refine st1 ?_
      obtain ⟨_, h, hF⟩ := e_bind hF
      (first | refine g_call h lv1 ?_ | refine g_callT h lv1 ?_)
      (conv => arg 1; whnf)
      refine st1 ?_
      rcases e_bif hF with ⟨hb3, hF⟩ | ⟨hb3, hF⟩ <;> (first | rw [hb3] | (conv => arg 7; rw [hb3]) | (conv => arg 9; rw [hb3]))
      · refine st1 ?_
        obtain ⟨_, h, hF⟩ := e_bind hF
        (first | refine g_call h lv1 ?_ | refine g_callT h lv1 ?_)
        (conv => arg 1; whnf)
        refine st1 ?_
        rcases e_bif hF with ⟨hb4, hF⟩ | ⟨hb4, hF⟩ <;> (first | rw [hb4] | (conv => arg 7; rw [hb4]) | (conv => arg 9; rw [hb4]))
        · refine st1 ?_
          obtain ⟨_, h, hF⟩ := e_bind hF
          (first | refine g_hcall h lv1 (callable_conF rfl rfl (fun _ => rfl)) ?_ | refine g_hcallT h lv1 (callable_conF rfl rfl (fun _ => rfl)) ?_)
          (conv => arg 1; whnf)
          refine st1 ?_
          have hq : some _ = some _ := hF
          cases hq
          exact en1
        · refine st1 ?_
          have hq : some _ = some _ := hF
          cases hq
          exact en1
      · refine st1 ?_
        have hq : some _ = some _ := hF
        cases hq
        exact en1
    · refine st1 ?_
      have hq : some _ = some _ := hF
      cases hq
      exact en1
  · refine st1 ?_
    have hq : some _ = some _ := hF
    cases hq
    exact en1


@[reducible] noncomputable def c_hull_holds : Con := conF F_hull_holds (fun x => match x with | (a0) => [(V.sl (recs eTHullSection (a0)) (a0).length)]) (fun r => (V.v (.int .i64 (r))))
theorem h_hull_holds : Has Tryz.prog 74 c_hull_holds := by
  refine hasF ctx_nil mix Tryz.func74 rfl (by kernel_rfl) ?_
  rintro a0 r hF
  refine ⟨of_decide_eq_true rfl, ?_⟩
  refine st1 ?_
  refine st_loopF (e_assoc hF) () [] ⟨sT, sS, by rfl, by rfl⟩ ?_
  · rintro n ⟨_, _⟩ _ x hx1 hF
    (conv => arg 7; whnf); (conv => arg 8; whnf); (conv => arg 9; whnf)
    refine st1 ?_
    rcases e_bif hF with ⟨hb3, hF⟩ | ⟨hb3, hF⟩ <;> (first | rw [hb3] | (conv => arg 7; rw [hb3]) | (conv => arg 9; rw [hb3]))
    · refine st1 ?_
      obtain ⟨_, h, hF⟩ := e_bind hF
      (first | refine o_ia (enc := eTHullSection) (s := 5) h (fun _ => rfl) (by decide) ?_ | refine o_iaT (enc := eTHullSection) (s := 5) h (fun _ => rfl) (by decide) ?_)
      intro _
      refine st1 ?_
      exact k_loopF (e_some hF) hx1 () [] ⟨sT, sS, by rfl, by rfl⟩
    · refine st1 ?_
      have hF := e_some hF
      have hq : some _ = some _ := hF
      cases hq
      exact en1


@[reducible] noncomputable def c_hull_Check : Con := conF F_hull_Check (fun x => match x with | (a0) => [(V.agg (eTHull a0))]) (fun r => (V.v (.int .i64 (r))))
theorem h_hull_Check : Has Tryz.prog 42 c_hull_Check := by
  refine hasF (ctx_cons (h_numbers_Every_HullSection (ctx_cons h_hull_validSection ctx_nil)) (ctx_cons h_hull_holds (ctx_cons h_hull_length (ctx_cons h_numbers_Within ctx_nil)))) mix Tryz.func42 rfl (by kernel_rfl) ?_
  rintro a0 r hF
  refine ⟨of_decide_eq_true rfl, ?_⟩
  refine st1 ?_
  obtain ⟨_, h, hF⟩ := e_bind hF
  (first | refine g_call h lv1 ?_ | refine g_callT h lv1 ?_)
  (conv => arg 1; whnf)
  refine st1 ?_
  rcases e_bif hF with ⟨hb1, hF⟩ | ⟨hb1, hF⟩ <;> (first | rw [hb1] | (conv => arg 7; rw [hb1]) | (conv => arg 9; rw [hb1]))
  · refine st1 ?_
    have hq : some _ = some _ := hF
    cases hq
    exact en1
  · refine st1 ?_
    obtain ⟨_, h, hF⟩ := e_bind hF
    (first | refine g_call h lv1 ?_ | refine g_callT h lv1 ?_)
    (conv => arg 1; whnf)
    refine st1 ?_
    rcases e_bif hF with ⟨hb2, hF⟩ | ⟨hb2, hF⟩ <;> (first | rw [hb2] | (conv => arg 7; rw [hb2]) | (conv => arg 9; rw [hb2]))
    · refine st1 ?_
      have hq : some _ = some _ := hF
      cases hq
      exact en1
    · refine st1 ?_
      obtain ⟨_, h, hF⟩ := e_bind hF
      (first | refine g_hcall h lv1 (callable_conF rfl rfl (fun _ => rfl)) ?_ | refine g_hcallT h lv1 (callable_conF rfl rfl (fun _ => rfl)) ?_)
      (conv => arg 1; whnf)
      refine st1 ?_
      rcases e_bif hF with ⟨hb3, hF⟩ | ⟨hb3, hF⟩ <;> (first | rw [hb3] | (conv => arg 7; rw [hb3]) | (conv => arg 9; rw [hb3]))
      · refine st1 ?_
        have hq : some _ = some _ := hF
        cases hq
        exact en1
      · refine st1 ?_
        obtain ⟨_, h, hF⟩ := e_bind hF
        (first | refine g_call h lv1 ?_ | refine g_callT h lv1 ?_)
        (conv => arg 1; whnf)
        refine st1 ?_
        rcases e_bif hF with ⟨hb4, hF⟩ | ⟨hb4, hF⟩ <;> (first | rw [hb4] | (conv => arg 7; rw [hb4]) | (conv => arg 9; rw [hb4]))
        · refine st1 ?_
          have hq : some _ = some _ := hF
          cases hq
          exact en1
        · refine st1 ?_
          obtain ⟨_, h, hF⟩ := e_bind hF
          (first | refine g_call h lv1 ?_ | refine g_callT h lv1 ?_)
          (conv => arg 1; whnf)
          refine st1 ?_
          rcases e_bif hF with ⟨hb5, hF⟩ | ⟨hb5, hF⟩ <;> (first | rw [hb5] | (conv => arg 7; rw [hb5]) | (conv => arg 9; rw [hb5]))
          · refine st1 ?_
            have hq : some _ = some _ := hF
            cases hq
            exact en1
          · refine st1 ?_
            have hq : some _ = some _ := hF
            cases hq
            exact en1


@[reducible] noncomputable def c_hull_launch : Con := conF F_hull_launch (fun x => match x with | (a0) => [(V.agg (eTHull a0))]) (fun r => V.tup [(V.agg (eThull_ship r.1)), (V.v (.int .i64 (r.2)))])
theorem h_hull_launch : Has Tryz.prog 32 c_hull_launch := by
  refine hasF (ctx_cons h_hull_length (ctx_cons h_hull_Check ctx_nil)) mix Tryz.func32 rfl (by kernel_rfl) ?_
  rintro a0 r hF
  refine ⟨of_decide_eq_true rfl, ?_⟩
  refine st1 ?_
  obtain ⟨_, h, hF⟩ := e_bind hF
  (first | refine g_call h lv1 ?_ | refine g_callT h lv1 ?_)
  (conv => arg 1; whnf)
  refine st1 ?_
  rcases e_bif hF with ⟨hb1, hF⟩ | ⟨hb1, hF⟩ <;> (first | rw [hb1] | (conv => arg 7; rw [hb1]) | (conv => arg 9; rw [hb1]))
  · refine st1 ?_
    have hq : some _ = some _ := hF
    cases hq
    exact en1
  · refine st1 ?_
    obtain ⟨_, h, hF⟩ := e_bind hF
    (first | refine g_call h lv1 ?_ | refine g_callT h lv1 ?_)
    (conv => arg 1; whnf)
    refine st1 ?_
    refine st_loopF (e_assoc hF) () [(1, _), (10, _)] ⟨sT, sS, by rfl, by rfl⟩ ?_
    · rintro n ⟨_, _, _, _, _, _, _⟩ _ x hx1 hF
      (conv => arg 7; whnf); (conv => arg 8; whnf); (conv => arg 9; whnf)
      refine st1 ?_
      rcases e_bif hF with ⟨hb15, hF⟩ | ⟨hb15, hF⟩ <;> (first | rw [hb15] | (conv => arg 7; rw [hb15]) | (conv => arg 9; rw [hb15]))
      · refine st1 ?_
        obtain ⟨_, h, hF⟩ := e_bind hF
        (first | refine o_ia (enc := eTHullSection) (s := 5) h (fun _ => rfl) (by decide) ?_ | refine o_iaT (enc := eTHullSection) (s := 5) h (fun _ => rfl) (by decide) ?_)
        intro _
        refine st1 ?_
        obtain ⟨_, h, hF⟩ := e_bind hF
        (first | refine o_ia (enc := eTHullRow) (s := 2) h (fun _ => rfl) (by decide) ?_ | refine o_iaT (enc := eTHullRow) (s := 2) h (fun _ => rfl) (by decide) ?_)
        intro _
        refine st1 ?_
        refine st_loopF (e_assoc hF) () [(1, _), (10, _), (11, _), (15, _)] ⟨sT, sS, by rfl, by rfl⟩ ?_
        · rintro n ⟨_, _⟩ _ x hx2 hF
          (conv => arg 7; whnf); (conv => arg 8; whnf); (conv => arg 9; whnf)
          refine st1 ?_
          rcases e_bif hF with ⟨hb18, hF⟩ | ⟨hb18, hF⟩ <;> (first | rw [hb18] | (conv => arg 7; rw [hb18]) | (conv => arg 9; rw [hb18]))
          · refine st1 ?_
            obtain ⟨_, h, hF⟩ := e_bind hF
            (first | refine o_ia (enc := eTHullHold) (s := 2) h (fun _ => rfl) (by decide) ?_ | refine o_iaT (enc := eTHullHold) (s := 2) h (fun _ => rfl) (by decide) ?_)
            intro _
            refine st1 ?_
            obtain ⟨_, h, hF⟩ := e_bind hF
            (first | refine o_app (enc := eThull_hold) (s := 3) h (fun _ => rfl) ?_ | refine o_appT (enc := eThull_hold) (s := 3) h (fun _ => rfl) ?_)
            refine st1 ?_
            exact k_loopF (e_some hF) hx2 () [(1, _), (10, _), (11, _), (15, _)] ⟨sT, sS, by rfl, by rfl⟩
          · refine st1 ?_
            have hF := e_some hF
            exact k_loopF (e_some hF) hx1 () [(1, _), (10, _), (11, _)] ⟨sT, sS, by rfl, by rfl⟩
      · refine st1 ?_
        have hF := e_some hF
        have hq : some _ = some _ := hF
        cases hq
        exact en1


@[reducible] noncomputable def c_hull_ship_checkLoad : Con := conF F_hull_ship_checkLoad (fun x => match x with | (a0, a1) => [(V.agg (eThull_ship a0)), (V.sl (recs (eI .i64) (a1)) (a1).length)]) (fun r => (V.v (.int .i64 (r))))
theorem h_hull_ship_checkLoad : Has Tryz.prog 35 c_hull_ship_checkLoad := by
  refine hasF (ctx_cons h_numbers_Within ctx_nil) mix Tryz.func35 rfl (by kernel_rfl) ?_
  rintro ⟨a0, a1⟩ r hF
  refine ⟨of_decide_eq_true rfl, ?_⟩
  refine st1 ?_
  rcases e_bif hF with ⟨hb1, hF⟩ | ⟨hb1, hF⟩ <;> (first | rw [hb1] | (conv => arg 7; rw [hb1]) | (conv => arg 9; rw [hb1]))
  · refine st1 ?_
    have hq : some _ = some _ := hF
    cases hq
    exact en1
  · refine st1 ?_
    refine st_loopF (e_assoc hF) () [(0, _)] ⟨sT, sS, by rfl, by rfl⟩ ?_
    · rintro n _ _ x hx1 hF
      (conv => arg 7; whnf); (conv => arg 8; whnf); (conv => arg 9; whnf)
      refine st1 ?_
      rcases e_bif hF with ⟨hb6, hF⟩ | ⟨hb6, hF⟩ <;> (first | rw [hb6] | (conv => arg 7; rw [hb6]) | (conv => arg 9; rw [hb6]))
      · refine st1 ?_
        obtain ⟨_, h, hF⟩ := e_bind hF
        (first | refine o_ia (enc := (eI .i64)) (s := 1) h (fun _ => rfl) (by decide) ?_ | refine o_iaT (enc := (eI .i64)) (s := 1) h (fun _ => rfl) (by decide) ?_)
        intro _
        refine st1 ?_
        obtain ⟨_, h, hF⟩ := e_bind hF
        (first | refine o_ia (enc := eThull_hold) (s := 3) h (fun _ => rfl) (by decide) ?_ | refine o_iaT (enc := eThull_hold) (s := 3) h (fun _ => rfl) (by decide) ?_)
        intro _
        refine st1 ?_
        obtain ⟨_, h, hF⟩ := e_bind hF
        (first | refine g_call h lv1 ?_ | refine g_callT h lv1 ?_)
        (conv => arg 1; whnf)
        refine st1 ?_
        rcases e_bif hF with ⟨hb7, hF⟩ | ⟨hb7, hF⟩ <;> (first | rw [hb7] | (conv => arg 7; rw [hb7]) | (conv => arg 9; rw [hb7]))
        · refine st1 ?_
          have hF := e_some hF
          have hq : some _ = some _ := hF
          cases hq
          exact en1
        · refine st1 ?_
          exact k_loopF (e_some hF) hx1 () [(0, _)] ⟨sT, sS, by rfl, by rfl⟩
      · refine st1 ?_
        have hF := e_some hF
        have hq : some _ = some _ := hF
        cases hq
        exact en1


@[reducible] noncomputable def c_hull_validDensity : Con := conF F_hull_validDensity (fun x => match x with | (a0) => [(V.agg (eTBounds a0))]) (fun r => (V.v (.bool (r))))
theorem h_hull_validDensity : Has Tryz.prog 36 c_hull_validDensity := by
  refine hasF (ctx_cons h_numbers_Valid ctx_nil) mix Tryz.func36 rfl (by kernel_rfl) ?_
  rintro a0 r hF
  refine ⟨of_decide_eq_true rfl, ?_⟩
  refine st1 ?_
  obtain ⟨_, h, hF⟩ := e_bind hF
  (first | refine g_call h lv1 ?_ | refine g_callT h lv1 ?_)
  (conv => arg 1; whnf)
  refine st1 ?_
  have hq : some _ = some _ := hF
  cases hq
  exact en1


@[reducible] noncomputable def c_hull_ship_loaded : Con := conF F_hull_ship_loaded (fun x => match x with | (a0, a1) => [(V.agg (eThull_ship a0)), (V.sl (recs (eI .i64) (a1)) (a1).length)]) (fun r => V.tup [(V.v (.int .i64 (r.1))), (V.v (.int .i64 (r.2)))])
theorem h_hull_ship_loaded : Has Tryz.prog 66 c_hull_ship_loaded := by
  refine hasF ctx_nil mix Tryz.func66 rfl (by kernel_rfl) ?_
  rintro ⟨a0, a1⟩ r hF
  refine ⟨of_decide_eq_true rfl, ?_⟩
  refine st1 ?_
  refine st_loopF (e_assoc hF) () [(0, _)] ⟨sT, sS, by rfl, by rfl⟩ ?_
  · rintro n ⟨_, _, _⟩ _ x hx1 hF
    (conv => arg 7; whnf); (conv => arg 8; whnf); (conv => arg 9; whnf)
    refine st1 ?_
    rcases e_bif hF with ⟨hb3, hF⟩ | ⟨hb3, hF⟩ <;> (first | rw [hb3] | (conv => arg 7; rw [hb3]) | (conv => arg 9; rw [hb3]))
    · refine st1 ?_
      obtain ⟨_, h, hF⟩ := e_bind hF
      (first | refine o_ia (enc := (eI .i64)) (s := 1) h (fun _ => rfl) (by decide) ?_ | refine o_iaT (enc := (eI .i64)) (s := 1) h (fun _ => rfl) (by decide) ?_)
      intro _
      refine st1 ?_
      obtain ⟨_, h, hF⟩ := e_bind hF
      (first | refine o_ia (enc := eThull_hold) (s := 3) h (fun _ => rfl) (by decide) ?_ | refine o_iaT (enc := eThull_hold) (s := 3) h (fun _ => rfl) (by decide) ?_)
      intro _
      refine st1 ?_
      exact k_loopF (e_some hF) hx1 () [(0, _)] ⟨sT, sS, by rfl, by rfl⟩
    · refine st1 ?_
      have hF := e_some hF
      have hq : some _ = some _ := hF
      cases hq
      exact en1


@[reducible] noncomputable def c_sort_Search (C : FuncId → Option Con) : Con := conK F_sort_Search (fun x => match x with | (a0, a1, g, caps) => [(V.v (.int .i64 (a0))), (V.fn g caps)]) (fun x => match x with | (a0, a1, g, caps) => Callable (ext C []) g caps (fun x => match x with | (q0) => [(V.v (.int .i64 (q0)))]) (fun r => (V.v (.bool (r)))) a1) (fun r => (V.v (.int .i64 (r))))
theorem h_sort_Search {C : FuncId → Option Con} (hC : CtxOK Tryz.prog C) : Has Tryz.prog 95 (c_sort_Search C) := by
  refine hasK (ext_nil hC) mix Tryz.func95 rfl (by kernel_rfl) ?_
  rintro ⟨a0, a1, g, caps⟩ r hcl hF
  obtain ⟨hcaps, c, hc, hce, hcf, hcall⟩ := id hcl
  refine ⟨of_decide_eq_true rfl, ?_⟩
  refine st1 ?_
  refine st_loopF (e_assoc hF) () [] ⟨sT, sS, by rfl, by rfl⟩ ?_
  · rintro n ⟨_, _⟩ _ x hx1 hF
    (conv => arg 7; whnf); (conv => arg 8; whnf); (conv => arg 9; whnf)
    refine st1 ?_
    rcases e_bif hF with ⟨hb5, hF⟩ | ⟨hb5, hF⟩ <;> (first | rw [hb5] | (conv => arg 7; rw [hb5]) | (conv => arg 9; rw [hb5]))
    · refine st1 ?_
      obtain ⟨_, h, hF⟩ := e_bind hF
      rw [hc]
      (conv => arg 1; whnf)
      rw [hce, hcf]
      (conv => arg 1; whnf)
      (first | refine go_map hcaps rfl ?_ | refine goT_map hcaps rfl ?_)
      (conv => arg 1; whnf)
      obtain ⟨z, hz1, hz2, hz3⟩ := hcall _ _ h
      (first | refine go_exi z ⟨levs_eq hz1.symm, hz2⟩ ?_ | refine goT_exi z ⟨levs_eq hz1.symm, hz2⟩ ?_)
      rw [hz3]
      (conv => arg 1; whnf)
      refine st1 ?_
      rcases e_bif hF with ⟨hb6, hF⟩ | ⟨hb6, hF⟩ <;> (first | rw [hb6] | (conv => arg 7; rw [hb6]) | (conv => arg 9; rw [hb6]))
      · refine st1 ?_
        exact k_loopF (e_some hF) hx1 () [] ⟨sT, sS, by rfl, by rfl⟩
      · refine st1 ?_
        exact k_loopF (e_some hF) hx1 () [] ⟨sT, sS, by rfl, by rfl⟩
    · refine st1 ?_
      have hF := e_some hF
      have hq : some _ = some _ := hF
      cases hq
      exact en1


@[reducible] noncomputable def c_slices_IndexFunc_L_HullRow_HullRow (C : FuncId → Option Con) : Con := conK F_slices_IndexFunc_L_HullRow_HullRow (fun x => match x with | (a0, a1, g, caps) => [(V.sl (recs eTHullRow (a0)) (a0).length), (V.fn g caps)]) (fun x => match x with | (a0, a1, g, caps) => Callable (ext C []) g caps (fun x => match x with | (q0) => [(V.agg (eTHullRow q0))]) (fun r => (V.v (.bool (r)))) a1) (fun r => (V.v (.int .i64 (r))))
theorem h_slices_IndexFunc_L_HullRow_HullRow {C : FuncId → Option Con} (hC : CtxOK Tryz.prog C) : Has Tryz.prog 93 (c_slices_IndexFunc_L_HullRow_HullRow C) := by
  refine hasK (ext_nil hC) mix Tryz.func93 rfl (by kernel_rfl) ?_
  rintro ⟨a0, a1, g, caps⟩ r hcl hF
  obtain ⟨hcaps, c, hc, hce, hcf, hcall⟩ := id hcl
  refine ⟨of_decide_eq_true rfl, ?_⟩
  refine st1 ?_
  refine st_loopF (e_assoc hF) () [] ⟨sT, sS, by rfl, by rfl⟩ ?_
  · rintro n _ _ x hx1 hF
    (conv => arg 7; whnf); (conv => arg 8; whnf); (conv => arg 9; whnf)
    refine st1 ?_
    rcases e_bif hF with ⟨hb5, hF⟩ | ⟨hb5, hF⟩ <;> (first | rw [hb5] | (conv => arg 7; rw [hb5]) | (conv => arg 9; rw [hb5]))
    · refine st1 ?_
      obtain ⟨_, h, hF⟩ := e_bind hF
      (first | refine o_ia (enc := eTHullRow) (s := 2) h (fun _ => rfl) (by decide) ?_ | refine o_iaT (enc := eTHullRow) (s := 2) h (fun _ => rfl) (by decide) ?_)
      intro _
      refine st1 ?_
      obtain ⟨_, h, hF⟩ := e_bind hF
      rw [hc]
      (conv => arg 1; whnf)
      rw [hce, hcf]
      (conv => arg 1; whnf)
      (first | refine go_map hcaps rfl ?_ | refine goT_map hcaps rfl ?_)
      (conv => arg 1; whnf)
      obtain ⟨z, hz1, hz2, hz3⟩ := hcall _ _ h
      (first | refine go_exi z ⟨levs_eq hz1.symm, hz2⟩ ?_ | refine goT_exi z ⟨levs_eq hz1.symm, hz2⟩ ?_)
      rw [hz3]
      (conv => arg 1; whnf)
      refine st1 ?_
      rcases e_bif hF with ⟨hb6, hF⟩ | ⟨hb6, hF⟩ <;> (first | rw [hb6] | (conv => arg 7; rw [hb6]) | (conv => arg 9; rw [hb6]))
      · refine st1 ?_
        have hF := e_some hF
        have hq : some _ = some _ := hF
        cases hq
        exact en1
      · refine st1 ?_
        exact k_loopF (e_some hF) hx1 () [] ⟨sT, sS, by rfl, by rfl⟩
    · refine st1 ?_
      have hF := e_some hF
      have hq : some _ = some _ := hF
      cases hq
      exact en1


@[reducible] noncomputable def c_hull_curveAt_1 : Con := conF F_hull_curveAt_1 (fun x => match x with | (a0, c0) => [(V.agg (eTHullRow a0)), (V.fptr [(V.v (.int .i64 (c0)))])]) (fun r => (V.v (.bool (r))))
theorem h_hull_curveAt_1 : Has Tryz.prog 94 c_hull_curveAt_1 := by
  refine hasF ctx_nil mix Tryz.func94 rfl (by kernel_rfl) ?_
  rintro ⟨a0, c0⟩ r hF
  refine ⟨of_decide_eq_true rfl, ?_⟩
  refine st1 ?_
  have hq : some _ = some _ := hF
  cases hq
  exact en1


@[reducible] noncomputable def c_hull_curveAt : Con := conF F_hull_curveAt (fun x => match x with | (a0, a1) => [(V.sl (recs eTHullRow (a0)) (a0).length), (V.v (.int .i64 (a1)))]) (fun r => (V.v (.int .i64 (r))))
theorem h_hull_curveAt : Has Tryz.prog 65 c_hull_curveAt := by
  refine hasF (ctx_cons (h_slices_IndexFunc_L_HullRow_HullRow (ctx_cons h_hull_curveAt_1 ctx_nil)) ctx_nil) mix Tryz.func65 rfl (by kernel_rfl) ?_
  rintro ⟨a0, a1⟩ r hF
  refine ⟨of_decide_eq_true rfl, ?_⟩
  refine st1 ?_
  obtain ⟨_, h, hF⟩ := e_bind hF
  (first | refine o_slc (enc := eTHullRow) (s := 2) h (fun _ => rfl) ?_ | refine o_slcT (enc := eTHullRow) (s := 2) h (fun _ => rfl) ?_)
  refine st1 ?_
  obtain ⟨_, h, hF⟩ := e_bind hF
  (first | refine g_hcall h lv1 (callable_conF rfl rfl (fun _ => rfl)) ?_ | refine g_hcallT h lv1 (callable_conF rfl rfl (fun _ => rfl)) ?_)
  (conv => arg 1; whnf)
  refine st1 ?_
  obtain ⟨_, h, hF⟩ := e_bind hF
  (first | refine o_ia (enc := eTHullRow) (s := 2) h (fun _ => rfl) (by decide) ?_ | refine o_iaT (enc := eTHullRow) (s := 2) h (fun _ => rfl) (by decide) ?_)
  intro _
  refine st1 ?_
  obtain ⟨_, h, hF⟩ := e_bind hF
  (first | refine o_ia (enc := eTHullRow) (s := 2) h (fun _ => rfl) (by decide) ?_ | refine o_iaT (enc := eTHullRow) (s := 2) h (fun _ => rfl) (by decide) ?_)
  intro _
  refine st1 ?_
  obtain ⟨_, h, hF⟩ := e_bind hF
  (first | refine go_req (nz_ne h) ?_ | refine goT_req (nz_ne h) ?_)
  (conv => arg 1; whnf)
  refine st1 ?_
  have hq : some _ = some _ := hF
  cases hq
  exact en1


@[reducible] noncomputable def c_hull_ship_volume : Con := conF F_hull_ship_volume (fun x => match x with | (a0, a1) => [(V.agg (eThull_ship a0)), (V.v (.int .i64 (a1)))]) (fun r => (V.v (.int .i64 (r))))
theorem h_hull_ship_volume : Has Tryz.prog 34 c_hull_ship_volume := by
  refine hasF (ctx_cons h_hull_curveAt ctx_nil) mix Tryz.func34 rfl (by kernel_rfl) ?_
  rintro ⟨a0, a1⟩ r hF
  refine ⟨of_decide_eq_true rfl, ?_⟩
  refine st1 ?_
  refine st_loopF (e_assoc hF) () [] ⟨sT, sS, by rfl, by rfl⟩ ?_
  · rintro n ⟨_, _⟩ _ x hx1 hF
    (conv => arg 7; whnf); (conv => arg 8; whnf); (conv => arg 9; whnf)
    refine st1 ?_
    rcases e_bif hF with ⟨hb3, hF⟩ | ⟨hb3, hF⟩ <;> (first | rw [hb3] | (conv => arg 7; rw [hb3]) | (conv => arg 9; rw [hb3]))
    · refine st1 ?_
      obtain ⟨_, h, hF⟩ := e_bind hF
      (first | refine o_ia (enc := eTHullSection) (s := 5) h (fun _ => rfl) (by decide) ?_ | refine o_iaT (enc := eTHullSection) (s := 5) h (fun _ => rfl) (by decide) ?_)
      intro _
      refine st1 ?_
      obtain ⟨_, h, hF⟩ := e_bind hF
      (first | refine g_call h lv1 ?_ | refine g_callT h lv1 ?_)
      (conv => arg 1; whnf)
      refine st1 ?_
      exact k_loopF (e_some hF) hx1 () [] ⟨sT, sS, by rfl, by rfl⟩
    · refine st1 ?_
      have hF := e_some hF
      have hq : some _ = some _ := hF
      cases hq
      exact en1


@[reducible] noncomputable def c_hull_ship_mean_1 : Con := conF F_hull_ship_mean_1 (fun x => match x with | (a0, c0, c1) => [(V.v (.int .i64 (a0))), (V.fptr [(V.v (.int .i64 (c0.Hull.Lot))), (V.sl (recs eTHullSection (c0.Hull.Sections)) (c0.Hull.Sections).length), (V.v (.int .i64 (c0.limit_))), (V.v (.int .i64 (c0.trim_))), (V.v (.int .i64 (c0.mass_))), (V.v (.int .i64 (c0.moment_))), (V.sl (recs eThull_hold (c0.storage_)) (c0.storage_).length)]), (V.fptr [(V.v (.int .i64 (c1)))])]) (fun r => (V.v (.bool (r))))
theorem h_hull_ship_mean_1 : Has Tryz.prog 96 c_hull_ship_mean_1 := by
  refine hasF (ctx_cons h_hull_ship_volume ctx_nil) mix Tryz.func96 rfl (by kernel_rfl) ?_
  rintro ⟨a0, c0, c1⟩ r hF
  refine ⟨of_decide_eq_true rfl, ?_⟩
  refine st1 ?_
  obtain ⟨_, h, hF⟩ := e_bind hF
  (first | refine g_call h lv1 ?_ | refine g_callT h lv1 ?_)
  (conv => arg 1; whnf)
  refine st1 ?_
  have hq : some _ = some _ := hF
  cases hq
  exact en1


@[reducible] noncomputable def c_hull_ship_mean : Con := conF F_hull_ship_mean (fun x => match x with | (a0, a1, a2) => [(V.agg (eThull_ship a0)), (V.v (.int .i64 (a1))), (V.v (.int .i64 (a2)))]) (fun r => (V.v (.int .i64 (r))))
theorem h_hull_ship_mean : Has Tryz.prog 67 c_hull_ship_mean := by
  refine hasF (ctx_cons (h_sort_Search (ctx_cons h_hull_ship_mean_1 ctx_nil)) (ctx_cons h_numbers_Up ctx_nil)) mix Tryz.func67 rfl (by kernel_rfl) ?_
  rintro ⟨a0, a1, a2⟩ r hF
  refine ⟨of_decide_eq_true rfl, ?_⟩
  refine st1 ?_
  obtain ⟨_, h, hF⟩ := e_bind hF
  (first | refine g_call h lv1 ?_ | refine g_callT h lv1 ?_)
  (conv => arg 1; whnf)
  refine st1 ?_
  obtain ⟨_, h, hF⟩ := e_bind hF
  (first | refine g_hcall h lv1 (callable_conF rfl rfl (fun _ => rfl)) ?_ | refine g_hcallT h lv1 (callable_conF rfl rfl (fun _ => rfl)) ?_)
  (conv => arg 1; whnf)
  refine st1 ?_
  have hq : some _ = some _ := hF
  cases hq
  exact en1


@[reducible] noncomputable def c_hull_withoutSign : Con := conF F_hull_withoutSign (fun x => match x with | (a0) => [(V.v (.int .i64 (a0)))]) (fun r => (V.v (.int .i64 (r))))
theorem h_hull_withoutSign : Has Tryz.prog 69 c_hull_withoutSign := by
  refine hasF ctx_nil mix Tryz.func69 rfl (by kernel_rfl) ?_
  rintro a0 r hF
  refine ⟨of_decide_eq_true rfl, ?_⟩
  refine st1 ?_
  have hq : some _ = some _ := hF
  cases hq
  exact en1


@[reducible] noncomputable def c_cmp_isNaN_int : Con := conF F_cmp_isNaN_int (fun x => match x with | (a0) => [(V.v (.int .i64 (a0)))]) (fun r => (V.v (.bool (r))))
theorem h_cmp_isNaN_int : Has Tryz.prog 98 c_cmp_isNaN_int := by
  refine hasF ctx_nil mix Tryz.func98 rfl (by kernel_rfl) ?_
  rintro a0 r hF
  refine ⟨of_decide_eq_true rfl, ?_⟩
  refine st1 ?_
  have hq : some _ = some _ := hF
  cases hq
  exact en1


@[reducible] noncomputable def c_cmp_Compare_int : Con := conF F_cmp_Compare_int (fun x => match x with | (a0, a1) => [(V.v (.int .i64 (a0))), (V.v (.int .i64 (a1)))]) (fun r => (V.v (.int .i64 (r))))
theorem h_cmp_Compare_int : Has Tryz.prog 70 c_cmp_Compare_int := by
  refine hasF (ctx_cons h_cmp_isNaN_int ctx_nil) mix Tryz.func70 rfl (by kernel_rfl) ?_
  rintro ⟨a0, a1⟩ r hF
  simp only [F_cmp_Compare_int] at hF
  refine ⟨of_decide_eq_true rfl, ?_⟩
  refine st1 ?_
  obtain ⟨_, h, hF⟩ := e_bind hF
  (first | refine g_call h lv1 ?_ | refine g_callT h lv1 ?_)
  (conv => arg 1; whnf)
  refine st1 ?_
  obtain ⟨_, h, hF⟩ := e_bind hF
  (first | refine g_call h lv1 ?_ | refine g_callT h lv1 ?_)
  (conv => arg 1; whnf)
  refine st1 ?_
  rcases e_bif hF with ⟨hb1, hF⟩ | ⟨hb1, hF⟩ <;> (first | rw [hb1] | (conv => arg 7; rw [hb1]) | (conv => arg 9; rw [hb1]))
  · refine st1 ?_
    rcases e_bif hF with ⟨hb2, hF⟩ | ⟨hb2, hF⟩ <;> (first | rw [hb2] | (conv => arg 7; rw [hb2]) | (conv => arg 9; rw [hb2]))
    · refine st1 ?_
      have hq : some _ = some _ := hF
      cases hq
      exact en1
    · refine st1 ?_
      have hq : some _ = some _ := hF
      cases hq
      exact en1
  · refine st1 ?_
    rcases e_bif hF with ⟨hb3, hF⟩ | ⟨hb3, hF⟩ <;> (first | rw [hb3] | (conv => arg 7; rw [hb3]) | (conv => arg 9; rw [hb3]))
    · refine st1 ?_
      have hq : some _ = some _ := hF
      cases hq
      exact en1
    · refine st1 ?_
      rcases e_bif hF with ⟨hb4, hF⟩ | ⟨hb4, hF⟩ <;> (first | rw [hb4] | (conv => arg 7; rw [hb4]) | (conv => arg 9; rw [hb4]))
      · refine st1 ?_
        have hq : some _ = some _ := hF
        cases hq
        exact en1
      · refine st1 ?_
        rcases e_bif hF with ⟨hb5, hF⟩ | ⟨hb5, hF⟩ <;> (first | rw [hb5] | (conv => arg 7; rw [hb5]) | (conv => arg 9; rw [hb5]))
        · refine st1 ?_
          have hq : some _ = some _ := hF
          cases hq
          exact en1
        · refine st1 ?_
          have hq : some _ = some _ := hF
          cases hq
          exact en1


@[reducible] noncomputable def c_hull_ship_float : Con := conF F_hull_ship_float (fun x => match x with | (a0, a1, a2) => [(V.agg (eThull_ship a0)), (V.sl (recs (eI .i64) (a1)) (a1).length), (V.agg (eTBounds a2))]) (fun r => V.tup [(V.agg (eTHullFloat r.1)), (V.v (.int .i64 (r.2)))])
theorem h_hull_ship_float : Has Tryz.prog 37 c_hull_ship_float := by
  refine hasF (ctx_cons h_cmp_Compare_int (ctx_cons h_hull_withoutSign (ctx_cons h_numbers_Up (ctx_cons h_hull_ship_mean (ctx_cons h_hull_ship_loaded ctx_nil))))) mix Tryz.func37 rfl (by kernel_rfl) ?_
  rintro ⟨a0, a1, a2⟩ r hF
  refine ⟨of_decide_eq_true rfl, ?_⟩
  refine st1 ?_
  obtain ⟨_, h, hF⟩ := e_bind hF
  (first | refine g_call h lv1 ?_ | refine g_callT h lv1 ?_)
  (conv => arg 1; whnf)
  refine st1 ?_
  obtain ⟨_, h, hF⟩ := e_bind hF
  (first | refine g_call h lv1 ?_ | refine g_callT h lv1 ?_)
  (conv => arg 1; whnf)
  refine st1 ?_
  obtain ⟨_, h, hF⟩ := e_bind hF
  (first | refine g_call h lv1 ?_ | refine g_callT h lv1 ?_)
  (conv => arg 1; whnf)
  refine st1 ?_
  obtain ⟨_, h, hF⟩ := e_bind hF
  (first | refine g_call h lv1 ?_ | refine g_callT h lv1 ?_)
  (conv => arg 1; whnf)
  refine st1 ?_
  obtain ⟨_, h, hF⟩ := e_bind hF
  (first | refine g_call h lv1 ?_ | refine g_callT h lv1 ?_)
  (conv => arg 1; whnf)
  refine st1 ?_
  rcases e_bif hF with ⟨hb1, hF⟩ | ⟨hb1, hF⟩ <;> (first | rw [hb1] | (conv => arg 7; rw [hb1]) | (conv => arg 9; rw [hb1]))
  · refine st1 ?_
    have hq : some _ = some _ := hF
    cases hq
    exact en1
  · refine st1 ?_
    obtain ⟨_, h, hF⟩ := e_bind hF
    (first | refine g_call h lv1 ?_ | refine g_callT h lv1 ?_)
    (conv => arg 1; whnf)
    refine st1 ?_
    have hq : some _ = some _ := hF
    cases hq
    exact en1


@[reducible] noncomputable def c_hull_Float : Con := conF F_hull_Float (fun x => match x with | (a0, a1, a2) => [(V.agg (eTHull a0)), (V.sl (recs (eI .i64) (a1)) (a1).length), (V.agg (eTBounds a2))]) (fun r => V.tup [(V.agg (eTHullFloat r.1)), (V.v (.int .i64 (r.2)))])
theorem h_hull_Float : Has Tryz.prog 18 c_hull_Float := by
  refine hasF (ctx_cons h_hull_ship_float (ctx_cons h_hull_validDensity (ctx_cons h_hull_ship_checkLoad (ctx_cons h_hull_launch ctx_nil)))) mix Tryz.func18 rfl (by kernel_rfl) ?_
  rintro ⟨a0, a1, a2⟩ r hF
  refine ⟨of_decide_eq_true rfl, ?_⟩
  refine st1 ?_
  obtain ⟨_, h, hF⟩ := e_bind hF
  (first | refine g_call h lv1 ?_ | refine g_callT h lv1 ?_)
  (conv => arg 1; whnf)
  refine st1 ?_
  rcases e_bif hF with ⟨hb1, hF⟩ | ⟨hb1, hF⟩ <;> (first | rw [hb1] | (conv => arg 7; rw [hb1]) | (conv => arg 9; rw [hb1]))
  · refine st1 ?_
    have hq : some _ = some _ := hF
    cases hq
    exact en1
  · refine st1 ?_
    obtain ⟨_, h, hF⟩ := e_bind hF
    (first | refine g_call h lv1 ?_ | refine g_callT h lv1 ?_)
    (conv => arg 1; whnf)
    refine st1 ?_
    rcases e_bif hF with ⟨hb2, hF⟩ | ⟨hb2, hF⟩ <;> (first | rw [hb2] | (conv => arg 7; rw [hb2]) | (conv => arg 9; rw [hb2]))
    · refine st1 ?_
      have hq : some _ = some _ := hF
      cases hq
      exact en1
    · refine st1 ?_
      obtain ⟨_, h, hF⟩ := e_bind hF
      (first | refine g_call h lv1 ?_ | refine g_callT h lv1 ?_)
      (conv => arg 1; whnf)
      refine st1 ?_
      rcases e_bif hF with ⟨hb3, hF⟩ | ⟨hb3, hF⟩ <;> (first | rw [hb3] | (conv => arg 7; rw [hb3]) | (conv => arg 9; rw [hb3]))
      · refine st1 ?_
        have hq : some _ = some _ := hF
        cases hq
        exact en1
      · refine st1 ?_
        obtain ⟨_, h, hF⟩ := e_bind hF
        (first | refine g_call h lv1 ?_ | refine g_callT h lv1 ?_)
        (conv => arg 1; whnf)
        refine st1 ?_
        have hq : some _ = some _ := hF
        cases hq
        exact en1


@[reducible] noncomputable def c_hull_sound : Con := conF F_hull_sound (fun x => match x with | (a0) => [(V.agg (eTPassage a0))]) (fun r => V.tup [(V.agg (eThull_leastDepth r.1)), (V.v (.int .i64 (r.2)))])
theorem h_hull_sound : Has Tryz.prog 23 c_hull_sound := by
  refine hasF (ctx_cons h_river_Shallowest (ctx_cons h_numbers_Within ctx_nil)) mix Tryz.func23 rfl (by kernel_rfl) ?_
  rintro a0 r hF
  refine ⟨of_decide_eq_true rfl, ?_⟩
  refine st1 ?_
  obtain ⟨_, h, hF⟩ := e_bind hF
  (first | refine g_call h lv1 ?_ | refine g_callT h lv1 ?_)
  (conv => arg 1; whnf)
  refine st1 ?_
  rcases e_bif hF with ⟨hb1, hF⟩ | ⟨hb1, hF⟩ <;> (first | rw [hb1] | (conv => arg 7; rw [hb1]) | (conv => arg 9; rw [hb1]))
  · refine st1 ?_
    have hq : some _ = some _ := hF
    cases hq
    exact en1
  · refine st1 ?_
    obtain ⟨_, h, hF⟩ := e_bind hF
    (first | refine g_call h lv1 ?_ | refine g_callT h lv1 ?_)
    (conv => arg 1; whnf)
    refine st1 ?_
    have hq : some _ = some _ := hF
    cases hq
    exact en1


@[reducible] noncomputable def c_hull_leastDepth_surely : Con := conF F_hull_leastDepth_surely (fun x => match x with | (a0, a1, a2) => [(V.agg (eThull_leastDepth a0)), (V.agg (eTHullFloat a1)), (V.v (.int .i64 (a2)))]) (fun r => (V.v (.bool (r))))
theorem h_hull_leastDepth_surely : Has Tryz.prog 24 c_hull_leastDepth_surely := by
  refine hasF ctx_nil mix Tryz.func24 rfl (by kernel_rfl) ?_
  rintro ⟨a0, a1, a2⟩ r hF
  refine ⟨of_decide_eq_true rfl, ?_⟩
  refine st1 ?_
  have hq : some _ = some _ := hF
  cases hq
  exact en1


@[reducible] noncomputable def c_hull_leastDepth_possibly : Con := conF F_hull_leastDepth_possibly (fun x => match x with | (a0, a1, a2) => [(V.agg (eThull_leastDepth a0)), (V.agg (eTHullFloat a1)), (V.v (.int .i64 (a2)))]) (fun r => (V.v (.bool (r))))
theorem h_hull_leastDepth_possibly : Has Tryz.prog 25 c_hull_leastDepth_possibly := by
  refine hasF ctx_nil mix Tryz.func25 rfl (by kernel_rfl) ?_
  rintro ⟨a0, a1, a2⟩ r hF
  refine ⟨of_decide_eq_true rfl, ?_⟩
  refine st1 ?_
  have hq : some _ = some _ := hF
  cases hq
  exact en1


@[reducible] noncomputable def c_hull_Safe : Con := conF F_hull_Safe (fun x => match x with | (a0, a1, a2, a3) => [(V.agg (eTHull a0)), (V.sl (recs (eI .i64) (a1)) (a1).length), (V.agg (eTBounds a2)), (V.agg (eTPassage a3))]) (fun r => V.tup [(V.v (.bool (r.1))), (V.v (.bool (r.2.1))), (V.v (.int .i64 (r.2.2.1))), (V.v (.int .i64 (r.2.2.2.1))), (V.v (.int .i64 (r.2.2.2.2)))])
theorem h_hull_Safe : Has Tryz.prog 8 c_hull_Safe := by
  refine hasF (ctx_cons h_hull_leastDepth_possibly (ctx_cons h_hull_leastDepth_surely (ctx_cons h_hull_sound (ctx_cons h_hull_Float ctx_nil)))) mix Tryz.func8 rfl (by kernel_rfl) ?_
  rintro ⟨a0, a1, a2, a3⟩ r hF
  refine ⟨of_decide_eq_true rfl, ?_⟩
  refine st1 ?_
  obtain ⟨_, h, hF⟩ := e_bind hF
  (first | refine g_call h lv1 ?_ | refine g_callT h lv1 ?_)
  (conv => arg 1; whnf)
  refine st1 ?_
  rcases e_bif hF with ⟨hb1, hF⟩ | ⟨hb1, hF⟩ <;> (first | rw [hb1] | (conv => arg 7; rw [hb1]) | (conv => arg 9; rw [hb1]))
  · refine st1 ?_
    have hq : some _ = some _ := hF
    cases hq
    exact en1
  · refine st1 ?_
    obtain ⟨_, h, hF⟩ := e_bind hF
    (first | refine g_call h lv1 ?_ | refine g_callT h lv1 ?_)
    (conv => arg 1; whnf)
    refine st1 ?_
    rcases e_bif hF with ⟨hb2, hF⟩ | ⟨hb2, hF⟩ <;> (first | rw [hb2] | (conv => arg 7; rw [hb2]) | (conv => arg 9; rw [hb2]))
    · refine st1 ?_
      have hq : some _ = some _ := hF
      cases hq
      exact en1
    · refine st1 ?_
      obtain ⟨_, h, hF⟩ := e_bind hF
      (first | refine g_call h lv1 ?_ | refine g_callT h lv1 ?_)
      (conv => arg 1; whnf)
      refine st1 ?_
      obtain ⟨_, h, hF⟩ := e_bind hF
      (first | refine g_call h lv1 ?_ | refine g_callT h lv1 ?_)
      (conv => arg 1; whnf)
      refine st1 ?_
      have hq : some _ = some _ := hF
      cases hq
      exact en1


@[reducible] noncomputable def c0_slices_Clone_L_Pass_Pass : Con := conR F_slices_Clone_L_Pass_Pass (fun l => [.sl (recs eTPass l) l.length]) (fun r => V.sl (recs eTPass r) r.length) 50 3
@[reducible] noncomputable def c_slices_Clone_L_Pass_Pass : Con := conR F_slices_Clone_L_Pass_Pass (fun l => [.sl (recs eTPass l) l.length]) (fun r => V.sl (recs eTPass r) r.length) 50 3
theorem h0_slices_Clone_L_Pass_Pass : Has Tryz.prog 50 c0_slices_Clone_L_Pass_Pass := by
  refine fresh_split (enc := eTPass) ctx_nil mix Tryz.func50 rfl (by kernel_rfl) ?_ ?_ ?_
  · intro y l r hF
    refine ⟨of_decide_eq_true rfl, ?_⟩
    refine st1 ?_
    obtain ⟨_, h, hF⟩ := e_bind hF
    (first | refine o_app (enc := eTPass) (s := 3) h (fun _ => rfl) ?_ | refine o_appT (enc := eTPass) (s := 3) h (fun _ => rfl) ?_)
    refine st1 ?_
    have hq : some _ = some _ := hF
    cases hq
    exact en2
  · intro a cap
    refine ⟨of_decide_eq_true rfl, ?_⟩
    cases a with
    | none => cases cap <;> (refine st1 ?_; exact en2)
    | some ad => refine st1 ?_; conv => whnf
                 exact Or.inl ⟨_, _, _, rfl, rfl, rfl, rfl⟩
  · intro r h
    have h0 : app? ([] : List TPass) [] 24 = some [] := app_nil (by decide) (by decide)
    simp only [F_slices_Clone_L_Pass_Pass, h0, Option.bind_some] at h
    cases h; rfl

theorem h_slices_Clone_L_Pass_Pass : Has Tryz.prog 50 c_slices_Clone_L_Pass_Pass := h0_slices_Clone_L_Pass_Pass


@[reducible] noncomputable def c_hull_delay : Con := conF F_hull_delay (fun x => match x with | (a0, a1) => [(V.sl (recs eTPass (a0)) (a0).length), (V.v (.int .i64 (a1)))]) (fun r => (V.sl (recs eTPass (r)) (r).length))
theorem h_hull_delay : Has Tryz.prog 26 c_hull_delay := by
  refine hasF (ctx_cons h_slices_Clone_L_Pass_Pass ctx_nil) mix Tryz.func26 rfl (by kernel_rfl) ?_
  rintro ⟨a0, a1⟩ r hF
  refine ⟨of_decide_eq_true rfl, ?_⟩
  refine st1 ?_
  obtain ⟨_, h, hF⟩ := e_bind hF
  (first | refine g_callR h lv1 ?_ | refine g_callRT h lv1 ?_)
  (conv => arg 1; whnf)
  refine st1 ?_
  refine st_loopF (e_assoc hF) () [(2, _)] ⟨sT, sS, by rfl, by rfl⟩ ?_
  · rintro n ⟨_, _⟩ _ x hx1 hF
    (conv => arg 7; whnf); (conv => arg 8; whnf); (conv => arg 9; whnf)
    refine st1 ?_
    rcases e_bif hF with ⟨hb3, hF⟩ | ⟨hb3, hF⟩ <;> (first | rw [hb3] | (conv => arg 7; rw [hb3]) | (conv => arg 9; rw [hb3]))
    · refine st1 ?_
      obtain ⟨_, hi15, hF⟩ := e_bind hF
      (first | refine go_req (oidx_ok hi15 (by decide)) ?_ | refine goT_req (oidx_ok hi15 (by decide)) ?_ | refine go_req (oidx_len hi15 (set_len (by assumption)) (by decide)) ?_ | refine goT_req (oidx_len hi15 (set_len (by assumption)) (by decide)) ?_)
      (conv => arg 1; whnf)
      refine st1 ?_
      (first | refine o_ldA (enc := eTPass) (s := 3) hi15 (fun _ => rfl) (by decide) ?_ | refine o_ldB (enc := eTPass) (s := 3) hi15 (fun _ => rfl) (by decide) ?_ | refine o_ldC (enc := eTPass) (s := 3) hi15 (fun _ => rfl) (by decide) ?_ | refine o_ldD (enc := eTPass) (s := 3) hi15 (fun _ => rfl) (by decide) ?_ | refine o_ldAT (enc := eTPass) (s := 3) hi15 (fun _ => rfl) (by decide) ?_ | refine o_ldBT (enc := eTPass) (s := 3) hi15 (fun _ => rfl) (by decide) ?_ | refine o_ldCT (enc := eTPass) (s := 3) hi15 (fun _ => rfl) (by decide) ?_ | refine o_ldDT (enc := eTPass) (s := 3) hi15 (fun _ => rfl) (by decide) ?_)
      (conv => arg 1; whnf)
      refine st1 ?_
      obtain ⟨_, hi17, hF⟩ := e_bind hF
      (first | refine go_req (oidx_ok hi17 (by decide)) ?_ | refine goT_req (oidx_ok hi17 (by decide)) ?_ | refine go_req (oidx_len hi17 (set_len (by assumption)) (by decide)) ?_ | refine goT_req (oidx_len hi17 (set_len (by assumption)) (by decide)) ?_)
      (conv => arg 1; whnf)
      refine st1 ?_
      obtain ⟨_, h, hF⟩ := e_bind hF
      (first | refine o_stA (enc := eTPass) (s := 3) hi17 h (fun _ => rfl) (by decide) rfl rfl ?_ | refine o_stB (enc := eTPass) (s := 3) hi17 h (fun _ => rfl) (by decide) rfl rfl ?_ | refine o_stAT (enc := eTPass) (s := 3) hi17 h (fun _ => rfl) (by decide) rfl rfl ?_ | refine o_stBT (enc := eTPass) (s := 3) hi17 h (fun _ => rfl) (by decide) rfl rfl ?_ | refine o_stC (enc := eTPass) (s := 3) hi17 h (fun _ => rfl) (by decide) rfl rfl ?_ | refine o_stCT (enc := eTPass) (s := 3) hi17 h (fun _ => rfl) (by decide) rfl rfl ?_)
      refine st1 ?_
      obtain ⟨_, hi20, hF⟩ := e_bind hF
      (first | refine go_req (oidx_ok hi20 (by decide)) ?_ | refine goT_req (oidx_ok hi20 (by decide)) ?_ | refine go_req (oidx_len hi20 (set_len (by assumption)) (by decide)) ?_ | refine goT_req (oidx_len hi20 (set_len (by assumption)) (by decide)) ?_)
      (conv => arg 1; whnf)
      refine st1 ?_
      (first | refine o_ldA (enc := eTPass) (s := 3) hi20 (fun _ => rfl) (by decide) ?_ | refine o_ldB (enc := eTPass) (s := 3) hi20 (fun _ => rfl) (by decide) ?_ | refine o_ldC (enc := eTPass) (s := 3) hi20 (fun _ => rfl) (by decide) ?_ | refine o_ldD (enc := eTPass) (s := 3) hi20 (fun _ => rfl) (by decide) ?_ | refine o_ldAT (enc := eTPass) (s := 3) hi20 (fun _ => rfl) (by decide) ?_ | refine o_ldBT (enc := eTPass) (s := 3) hi20 (fun _ => rfl) (by decide) ?_ | refine o_ldCT (enc := eTPass) (s := 3) hi20 (fun _ => rfl) (by decide) ?_ | refine o_ldDT (enc := eTPass) (s := 3) hi20 (fun _ => rfl) (by decide) ?_)
      (conv => arg 1; whnf)
      refine st1 ?_
      obtain ⟨_, hi22, hF⟩ := e_bind hF
      (first | refine go_req (oidx_ok hi22 (by decide)) ?_ | refine goT_req (oidx_ok hi22 (by decide)) ?_ | refine go_req (oidx_len hi22 (set_len (by assumption)) (by decide)) ?_ | refine goT_req (oidx_len hi22 (set_len (by assumption)) (by decide)) ?_)
      (conv => arg 1; whnf)
      refine st1 ?_
      obtain ⟨_, h, hF⟩ := e_bind hF
      (first | refine o_stA (enc := eTPass) (s := 3) hi22 h (fun _ => rfl) (by decide) rfl rfl ?_ | refine o_stB (enc := eTPass) (s := 3) hi22 h (fun _ => rfl) (by decide) rfl rfl ?_ | refine o_stAT (enc := eTPass) (s := 3) hi22 h (fun _ => rfl) (by decide) rfl rfl ?_ | refine o_stBT (enc := eTPass) (s := 3) hi22 h (fun _ => rfl) (by decide) rfl rfl ?_ | refine o_stC (enc := eTPass) (s := 3) hi22 h (fun _ => rfl) (by decide) rfl rfl ?_ | refine o_stCT (enc := eTPass) (s := 3) hi22 h (fun _ => rfl) (by decide) rfl rfl ?_)
      refine st1 ?_
      exact k_loopF (e_some hF) hx1 () [(2, _)] ⟨sT, sS, by rfl, by rfl⟩
    · refine st1 ?_
      have hF := e_some hF
      have hq : some _ = some _ := hF
      cases hq
      exact en1


@[reducible] noncomputable def c_hull_longestDelay : Con := conF F_hull_longestDelay (fun x => match x with | (a0) => [(V.agg (eTPassage a0))]) (fun r => (V.v (.int .i64 (r))))
theorem h_hull_longestDelay : Has Tryz.prog 27 c_hull_longestDelay := by
  refine hasF ctx_nil mix Tryz.func27 rfl (by kernel_rfl) ?_
  rintro a0 r hF
  refine ⟨of_decide_eq_true rfl, ?_⟩
  refine st1 ?_
  obtain ⟨_, h, hF⟩ := e_bind hF
  (first | refine o_ia (enc := (eS eTBounds)) (s := 1) h (fun _ => rfl) (by decide) ?_ | refine o_iaT (enc := (eS eTBounds)) (s := 1) h (fun _ => rfl) (by decide) ?_)
  intro _
  refine st1 ?_
  refine st_loopF (e_assoc hF) () [] ⟨sT, sS, by rfl, by rfl⟩ ?_
  · rintro n ⟨_, _⟩ _ x hx1 hF
    (conv => arg 7; whnf); (conv => arg 8; whnf); (conv => arg 9; whnf)
    refine st1 ?_
    rcases e_bif hF with ⟨hb3, hF⟩ | ⟨hb3, hF⟩ <;> (first | rw [hb3] | (conv => arg 7; rw [hb3]) | (conv => arg 9; rw [hb3]))
    · refine st1 ?_
      obtain ⟨_, h, hF⟩ := e_bind hF
      (first | refine o_ia (enc := eTPass) (s := 3) h (fun _ => rfl) (by decide) ?_ | refine o_iaT (enc := eTPass) (s := 3) h (fun _ => rfl) (by decide) ?_)
      intro _
      refine st1 ?_
      exact k_loopF (e_some hF) hx1 () [] ⟨sT, sS, by rfl, by rfl⟩
    · refine st1 ?_
      have hF := e_some hF
      have hq : some _ = some _ := hF
      cases hq
      exact en1


@[reducible] noncomputable def c_hull_Later : Con := conF F_hull_Later (fun x => match x with | (a0, a1, a2, a3) => [(V.agg (eTHull a0)), (V.sl (recs (eI .i64) (a1)) (a1).length), (V.agg (eTBounds a2)), (V.agg (eTPassage a3))]) (fun r => V.tup [(V.v (.int .i64 (r.1))), (V.v (.int .i64 (r.2)))])
theorem h_hull_Later : Has Tryz.prog 11 c_hull_Later := by
  refine hasF (ctx_cons h_hull_longestDelay (ctx_cons h_hull_delay (ctx_cons h_hull_Safe ctx_nil))) mix Tryz.func11 rfl (by kernel_rfl) ?_
  rintro ⟨a0, a1, a2, a3⟩ r hF
  refine ⟨of_decide_eq_true rfl, ?_⟩
  refine st1 ?_
  refine st_loopF (e_assoc hF) () [(0, _), (1, _), (2, _), (6, _)] ⟨sT, sS, by rfl, by rfl⟩ ?_
  · rintro n ⟨_, _⟩ _ x hx1 hF
    (conv => arg 7; whnf); (conv => arg 8; whnf); (conv => arg 9; whnf)
    refine st1 ?_
    obtain ⟨_, h, hF⟩ := e_bind hF
    (first | refine g_call h lv1 ?_ | refine g_callT h lv1 ?_)
    (conv => arg 1; whnf)
    refine st1 ?_
    obtain ⟨_, h, hF⟩ := e_bind hF
    (first | refine g_call h lv1 ?_ | refine g_callT h lv1 ?_)
    (conv => arg 1; whnf)
    refine st1 ?_
    rcases e_bif hF with ⟨hb7, hF⟩ | ⟨hb7, hF⟩ <;> (first | rw [hb7] | (conv => arg 7; rw [hb7]) | (conv => arg 9; rw [hb7]))
    · refine st1 ?_
      have hF := e_some hF
      have hq : some _ = some _ := hF
      cases hq
      exact en1
    · refine st1 ?_
      rcases e_bif hF with ⟨hb8, hF⟩ | ⟨hb8, hF⟩ <;> (first | rw [hb8] | (conv => arg 7; rw [hb8]) | (conv => arg 9; rw [hb8]))
      · refine st1 ?_
        have hF := e_some hF
        have hq : some _ = some _ := hF
        cases hq
        exact en1
      · refine st1 ?_
        obtain ⟨_, h, hF⟩ := e_bind hF
        (first | refine o_ia (enc := eTPass) (s := 3) h (fun _ => rfl) (by decide) ?_ | refine o_iaT (enc := eTPass) (s := 3) h (fun _ => rfl) (by decide) ?_)
        intro _
        refine st1 ?_
        obtain ⟨_, h, hF⟩ := e_bind hF
        (first | refine g_call h lv1 ?_ | refine g_callT h lv1 ?_)
        (conv => arg 1; whnf)
        refine st1 ?_
        rcases e_bif hF with ⟨hb9, hF⟩ | ⟨hb9, hF⟩ <;> (first | rw [hb9] | (conv => arg 7; rw [hb9]) | (conv => arg 9; rw [hb9]))
        · refine st1 ?_
          have hF := e_some hF
          have hq : some _ = some _ := hF
          cases hq
          exact en1
        · refine st1 ?_
          exact k_loopF (e_some hF) hx1 () [(0, _), (1, _), (2, _), (6, _)] ⟨sT, sS, by rfl, by rfl⟩


end Go.Ev
