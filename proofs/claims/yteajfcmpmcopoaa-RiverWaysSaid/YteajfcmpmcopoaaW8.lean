/- A part of the proof of RiverShallow. -/
import Derived.Test.YteajfcmpmcopoaaW7
/- The functions do what is said. -/
set_option linter.unusedVariables false
set_option linter.unusedSimpArgs false
namespace Go.Ev
open Go.Proofs
set_option maxHeartbeats 8000000
set_option maxRecDepth 100000
@[reducible] noncomputable def c_river_stream_checkWay : Con := conF F_river_stream_checkWay (fun x => match x with | (a0, a1) => [(V.agg (eTriver_stream a0)), (V.sl (recs eTPass (a1)) (a1).length)]) (fun r => (V.v (.int .i64 (r))))
theorem h_river_stream_checkWay : Has Try.prog 82 c_river_stream_checkWay := by
  refine hasF (ctx_cons h_river_find (ctx_cons h_river_stream_hours (ctx_cons h_numbers_Valid ctx_nil))) mix Try.func82 rfl (by kernel_rfl) ?_
  rintro ⟨a0, a1⟩ r hF
  refine ⟨of_decide_eq_true rfl, ?_⟩
  refine st1 ?_
  rcases e_bif hF with ⟨hb1, hF⟩ | ⟨hb1, hF⟩ <;> (first | rw [hb1] | (conv => arg 7; rw [hb1]) | (conv => arg 9; rw [hb1]))
  · refine st1 ?_
    have hq : some _ = some _ := hF
    cases hq
    exact en1
  · refine st1 ?_
    rcases e_bif hF with ⟨hb2, hF⟩ | ⟨hb2, hF⟩ <;> (first | rw [hb2] | (conv => arg 7; rw [hb2]) | (conv => arg 9; rw [hb2]))
    · refine st1 ?_
      have hq : some _ = some _ := hF
      cases hq
      exact en1
    · refine st1 ?_
      refine st_loopF (e_assoc hF) () [(0, _)] ⟨sT, sS, by rfl, by rfl⟩ ?_
      · rintro n _ _ x hx1 hF
        (conv => arg 7; whnf); (conv => arg 8; whnf); (conv => arg 9; whnf)
        refine st1 ?_
        rcases e_bif hF with ⟨hb9, hF⟩ | ⟨hb9, hF⟩ <;> (first | rw [hb9] | (conv => arg 7; rw [hb9]) | (conv => arg 9; rw [hb9]))
        · refine st1 ?_
          obtain ⟨_, h, hF⟩ := e_bind hF
          (first | refine o_ia (enc := eTPass) (s := 3) h (fun _ => rfl) (by decide) ?_ | refine o_iaT (enc := eTPass) (s := 3) h (fun _ => rfl) (by decide) ?_)
          intro _
          refine st1 ?_
          obtain ⟨_, h, hF⟩ := e_bind hF
          (first | refine g_call h lv1 ?_ | refine g_callT h lv1 ?_)
          (conv => arg 1; whnf)
          refine st1 ?_
          rcases e_bif hF with ⟨hb10, hF⟩ | ⟨hb10, hF⟩ <;> (first | rw [hb10] | (conv => arg 7; rw [hb10]) | (conv => arg 9; rw [hb10]))
          · refine st1 ?_
            have hF := e_some hF
            have hq : some _ = some _ := hF
            cases hq
            exact en1
          · refine st1 ?_
            obtain ⟨_, h, hF⟩ := e_bind hF
            (first | refine g_call h lv1 ?_ | refine g_callT h lv1 ?_)
            (conv => arg 1; whnf)
            refine st1 ?_
            obtain ⟨_, h, hF⟩ := e_bind hF
            (first | refine g_call h lv1 ?_ | refine g_callT h lv1 ?_)
            (conv => arg 1; whnf)
            refine st1 ?_
            rcases e_bif hF with ⟨hb11, hF⟩ | ⟨hb11, hF⟩ <;> (first | rw [hb11] | (conv => arg 7; rw [hb11]) | (conv => arg 9; rw [hb11]))
            · refine st1 ?_
              have hF := e_some hF
              have hq : some _ = some _ := hF
              cases hq
              exact en1
            · refine st1 ?_
              exact k_loopF (e_some hF) hx1 () [(0, _)] ⟨sT, sS, by rfl, by rfl⟩
        · refine st1 ?_
          have hF := e_some hF
          have hq : some _ = some _ := hF
          cases hq
          exact en1


@[reducible] noncomputable def c_river_stream_passDepth : Con := conF F_river_stream_passDepth (fun x => match x with | (a0, a1) => [(V.agg (eTriver_stream a0)), (V.agg (eTPass a1))]) (fun r => V.tup [(V.agg (eTBounds r.1)), (V.v (.int .i64 (r.2)))])
theorem h_river_stream_passDepth : Has Try.prog 83 c_river_stream_passDepth := by
  refine hasF (ctx_cons h_river_stream_depth (ctx_cons h_river_find ctx_nil)) mix Try.func83 rfl (by kernel_rfl) ?_
  rintro ⟨a0, a1⟩ r hF
  refine ⟨of_decide_eq_true rfl, ?_⟩
  refine st1 ?_
  obtain ⟨_, h, hF⟩ := e_bind hF
  (first | refine g_call h lv1 ?_ | refine g_callT h lv1 ?_)
  (conv => arg 1; whnf)
  refine st1 ?_
  obtain ⟨_, h, hF⟩ := e_bind hF
  (first | refine g_call h lv1 ?_ | refine g_callT h lv1 ?_)
  (conv => arg 1; whnf)
  refine st1 ?_
  refine st_loopF (e_assoc hF) () [(0, _), (1, _), (2, _), (12, _)] ⟨sT, sS, by rfl, by rfl⟩ ?_
  · rintro n ⟨_, _, _, _⟩ _ x hx1 hF
    (conv => arg 7; whnf); (conv => arg 8; whnf); (conv => arg 9; whnf)
    refine st1 ?_
    rcases e_bif hF with ⟨hb5, hF⟩ | ⟨hb5, hF⟩ <;> (first | rw [hb5] | (conv => arg 7; rw [hb5]) | (conv => arg 9; rw [hb5]))
    · refine st1 ?_
      obtain ⟨_, h, hF⟩ := e_bind hF
      (first | refine g_call h lv1 ?_ | refine g_callT h lv1 ?_)
      (conv => arg 1; whnf)
      refine st1 ?_
      rcases e_bif hF with ⟨hb6, hF⟩ | ⟨hb6, hF⟩ <;> (first | rw [hb6] | (conv => arg 7; rw [hb6]) | (conv => arg 9; rw [hb6]))
      · refine st1 ?_
        exact k_loopF (e_some hF) hx1 () [(0, _), (1, _), (2, _), (12, _)] ⟨sT, sS, by rfl, by rfl⟩
      · refine st1 ?_
        exact k_loopF (e_some hF) hx1 () [(0, _), (1, _), (2, _), (12, _)] ⟨sT, sS, by rfl, by rfl⟩
    · refine st1 ?_
      have hF := e_some hF
      have hq : some _ = some _ := hF
      cases hq
      exact en1


@[reducible] noncomputable def c_river_Shallowest : Con := conF F_river_Shallowest (fun x => match x with | (a0, a1, a2) => [(V.agg (eTRiver a0)), (V.sl (recs (eS eTBounds) (a1)) (a1).length), (V.sl (recs eTPass (a2)) (a2).length)]) (fun r => V.tup [(V.agg (eTBounds r.1)), (V.v (.int .i64 (r.2.1))), (V.v (.int .i64 (r.2.2.1))), (V.v (.int .i64 (r.2.2.2)))])
theorem h_river_Shallowest : Has Try.prog 44 c_river_Shallowest := by
  refine hasF (ctx_cons h_river_stream_passDepth (ctx_cons h_river_stream_checkWay (ctx_cons h_river_run ctx_nil))) mix Try.func44 rfl (by kernel_rfl) ?_
  rintro ⟨a0, a1, a2⟩ r hF
  refine ⟨of_decide_eq_true rfl, ?_⟩
  refine st1 ?_
  obtain ⟨_, h, hF⟩ := e_bind hF
  (first | refine g_call h lv1 ?_ | refine g_callT h lv1 ?_)
  (conv => arg 1; whnf)
  refine st1 ?_
  rcases e_bif hF with ⟨hb1, hF⟩ | ⟨hb1, hF⟩ <;> (first | rw [hb1] | (conv => arg 7; rw [hb1]) | (conv => arg 9; rw [hb1]))
  · refine st1 ?_
    have hq : some _ = some _ := hF
    cases hq
    exact en1
  · refine st1 ?_
    obtain ⟨_, h, hF⟩ := e_bind hF
    (first | refine g_call h lv1 ?_ | refine g_callT h lv1 ?_)
    (conv => arg 1; whnf)
    refine st1 ?_
    rcases e_bif hF with ⟨hb2, hF⟩ | ⟨hb2, hF⟩ <;> (first | rw [hb2] | (conv => arg 7; rw [hb2]) | (conv => arg 9; rw [hb2]))
    · refine st1 ?_
      have hq : some _ = some _ := hF
      cases hq
      exact en1
    · refine st1 ?_
      refine st_loopF (e_assoc hF) () [(1, _), (11, _)] ⟨sT, sS, by rfl, by rfl⟩ ?_
      · rintro n ⟨_, _, _, _, _⟩ _ x hx1 hF
        (conv => arg 7; whnf); (conv => arg 8; whnf); (conv => arg 9; whnf)
        refine st1 ?_
        rcases e_bif hF with ⟨hb9, hF⟩ | ⟨hb9, hF⟩ <;> (first | rw [hb9] | (conv => arg 7; rw [hb9]) | (conv => arg 9; rw [hb9]))
        · refine st1 ?_
          obtain ⟨_, h, hF⟩ := e_bind hF
          (first | refine o_ia (enc := eTPass) (s := 3) h (fun _ => rfl) (by decide) ?_ | refine o_iaT (enc := eTPass) (s := 3) h (fun _ => rfl) (by decide) ?_)
          intro _
          refine st1 ?_
          obtain ⟨_, h, hF⟩ := e_bind hF
          (first | refine g_call h lv1 ?_ | refine g_callT h lv1 ?_)
          (conv => arg 1; whnf)
          refine st1 ?_
          rcases e_bif hF with ⟨hb10, hF⟩ | ⟨hb10, hF⟩ <;> (first | rw [hb10] | (conv => arg 7; rw [hb10]) | (conv => arg 9; rw [hb10]))
          · refine st1 ?_
            exact k_loopF (e_some hF) hx1 () [(1, _), (11, _)] ⟨sT, sS, by rfl, by rfl⟩
          · refine st1 ?_
            exact k_loopF (e_some hF) hx1 () [(1, _), (11, _)] ⟨sT, sS, by rfl, by rfl⟩
        · refine st1 ?_
          have hF := e_some hF
          have hq : some _ = some _ := hF
          cases hq
          exact en1


@[reducible] noncomputable def c_thalwegref01_Way : Con := conF F_thalwegref01_Way (fun x => match x with | (a0, a1, a2) => [(V.agg (eTRiver a0)), (V.sl (recs eTPass (a1)) (a1).length), (V.v (.int .i64 (a2)))]) (fun r => (V.v (.int .i64 (r))))
theorem h_thalwegref01_Way : Has Try.prog 45 c_thalwegref01_Way := by
  refine hasF (ctx_cons h_thalwegref01_Places (ctx_cons h_thalwegref01_In (ctx_cons h_thalwegref01_Valid ctx_nil))) mix Try.func45 rfl (by kernel_rfl) ?_
  rintro ⟨a0, a1, a2⟩ r hF
  refine ⟨of_decide_eq_true rfl, ?_⟩
  refine st1 ?_
  rcases e_bif hF with ⟨hb1, hF⟩ | ⟨hb1, hF⟩ <;> (first | rw [hb1] | (conv => arg 7; rw [hb1]) | (conv => arg 9; rw [hb1]))
  · refine st1 ?_
    have hq : some _ = some _ := hF
    cases hq
    exact en1
  · refine st1 ?_
    rcases e_bif hF with ⟨hb2, hF⟩ | ⟨hb2, hF⟩ <;> (first | rw [hb2] | (conv => arg 7; rw [hb2]) | (conv => arg 9; rw [hb2]))
    · refine st1 ?_
      have hq : some _ = some _ := hF
      cases hq
      exact en1
    · refine st1 ?_
      refine st_loopF (e_assoc hF) () [(0, _)] ⟨sT, sS, by rfl, by rfl⟩ ?_
      · rintro n _ _ x hx1 hF
        (conv => arg 7; whnf); (conv => arg 8; whnf); (conv => arg 9; whnf)
        refine st1 ?_
        rcases e_bif hF with ⟨hb9, hF⟩ | ⟨hb9, hF⟩ <;> (first | rw [hb9] | (conv => arg 7; rw [hb9]) | (conv => arg 9; rw [hb9]))
        · refine st1 ?_
          obtain ⟨_, h, hF⟩ := e_bind hF
          (first | refine o_ia (enc := eTPass) (s := 3) h (fun _ => rfl) (by decide) ?_ | refine o_iaT (enc := eTPass) (s := 3) h (fun _ => rfl) (by decide) ?_)
          intro _
          refine st1 ?_
          obtain ⟨_, h, hF⟩ := e_bind hF
          (first | refine g_call h lv1 ?_ | refine g_callT h lv1 ?_)
          (conv => arg 1; whnf)
          refine st1 ?_
          obtain ⟨_, h, hF⟩ := e_bind hF
          (first | refine g_call h lv1 ?_ | refine g_callT h lv1 ?_)
          (conv => arg 1; whnf)
          refine st1 ?_
          rcases e_bif hF with ⟨hb10, hF⟩ | ⟨hb10, hF⟩ <;> (first | rw [hb10] | (conv => arg 7; rw [hb10]) | (conv => arg 9; rw [hb10]))
          · refine st1 ?_
            have hF := e_some hF
            have hq : some _ = some _ := hF
            cases hq
            exact en1
          · refine st1 ?_
            obtain ⟨_, h, hF⟩ := e_bind hF
            (first | refine o_ia (enc := eTPass) (s := 3) h (fun _ => rfl) (by decide) ?_ | refine o_iaT (enc := eTPass) (s := 3) h (fun _ => rfl) (by decide) ?_)
            intro _
            refine st1 ?_
            obtain ⟨_, h, hF⟩ := e_bind hF
            (first | refine g_call h lv1 ?_ | refine g_callT h lv1 ?_)
            (conv => arg 1; whnf)
            refine st1 ?_
            rcases e_bif hF with ⟨hb11, hF⟩ | ⟨hb11, hF⟩ <;> (first | rw [hb11] | (conv => arg 7; rw [hb11]) | (conv => arg 9; rw [hb11]))
            · refine st1 ?_
              have hF := e_some hF
              have hq : some _ = some _ := hF
              cases hq
              exact en1
            · refine st1 ?_
              exact k_loopF (e_some hF) hx1 () [(0, _)] ⟨sT, sS, by rfl, by rfl⟩
        · refine st1 ?_
          have hF := e_some hF
          have hq : some _ = some _ := hF
          cases hq
          exact en1


@[reducible] noncomputable def c_thalwegref01_Shallowest : Con := conF F_thalwegref01_Shallowest (fun x => match x with | (a0, a1, a2) => [(V.agg (eTRiver a0)), (V.sl (recs (eS eTBounds) (a1)) (a1).length), (V.sl (recs eTPass (a2)) (a2).length)]) (fun r => V.tup [(V.agg (eTBounds r.1)), (V.v (.int .i64 (r.2.1))), (V.v (.int .i64 (r.2.2)))])
theorem h_thalwegref01_Shallowest : Has Try.prog 46 c_thalwegref01_Shallowest := by
  refine hasF (ctx_cons h_thalwegref01_Depth ctx_nil) mix Try.func46 rfl (by kernel_rfl) ?_
  rintro ⟨a0, a1, a2⟩ r hF
  refine ⟨of_decide_eq_true rfl, ?_⟩
  refine st1 ?_
  refine st_loopF (e_assoc hF) () [(0, _), (1, _), (5, _)] ⟨sT, sS, by rfl, by rfl⟩ ?_
  · rintro n ⟨_, _, _, _, _⟩ _ x hx1 hF
    (conv => arg 7; whnf); (conv => arg 8; whnf); (conv => arg 9; whnf)
    refine st1 ?_
    rcases e_bif hF with ⟨hb22, hF⟩ | ⟨hb22, hF⟩ <;> (first | rw [hb22] | (conv => arg 7; rw [hb22]) | (conv => arg 9; rw [hb22]))
    · refine st1 ?_
      obtain ⟨_, h, hF⟩ := e_bind hF
      (first | refine o_ia (enc := eTPass) (s := 3) h (fun _ => rfl) (by decide) ?_ | refine o_iaT (enc := eTPass) (s := 3) h (fun _ => rfl) (by decide) ?_)
      intro _
      refine st1 ?_
      refine st_loopF (e_assoc hF) () [(0, _), (1, _), (5, _)] ⟨sT, sS, by rfl, by rfl⟩ ?_
      · rintro n ⟨_, _, _, _, _⟩ _ x hx2 hF
        (conv => arg 7; whnf); (conv => arg 8; whnf); (conv => arg 9; whnf)
        refine st1 ?_
        obtain ⟨_, h, hF⟩ := e_bind hF
        (first | refine o_ia (enc := eTPass) (s := 3) h (fun _ => rfl) (by decide) ?_ | refine o_iaT (enc := eTPass) (s := 3) h (fun _ => rfl) (by decide) ?_)
        intro _
        refine st1 ?_
        rcases e_bif hF with ⟨hb27, hF⟩ | ⟨hb27, hF⟩ <;> (first | rw [hb27] | (conv => arg 7; rw [hb27]) | (conv => arg 9; rw [hb27]))
        · refine st1 ?_
          obtain ⟨_, h, hF⟩ := e_bind hF
          (first | refine o_ia (enc := eTPass) (s := 3) h (fun _ => rfl) (by decide) ?_ | refine o_iaT (enc := eTPass) (s := 3) h (fun _ => rfl) (by decide) ?_)
          intro _
          refine st1 ?_
          obtain ⟨_, h, hF⟩ := e_bind hF
          (first | refine g_call h lv1 ?_ | refine g_callT h lv1 ?_)
          (conv => arg 1; whnf)
          refine st1 ?_
          rcases e_bif hF with ⟨hb28, hF⟩ | ⟨hb28, hF⟩ <;> (first | rw [hb28] | (conv => arg 7; rw [hb28]) | (conv => arg 9; rw [hb28]))
          · refine st1 ?_
            exact k_loopF (e_some hF) hx2 () [(0, _), (1, _), (5, _)] ⟨sT, sS, by rfl, by rfl⟩
          · refine st1 ?_
            exact k_loopF (e_some hF) hx2 () [(0, _), (1, _), (5, _)] ⟨sT, sS, by rfl, by rfl⟩
        · refine st1 ?_
          have hF := e_some hF
          exact k_loopF (e_some hF) hx1 () [(0, _), (1, _), (5, _)] ⟨sT, sS, by rfl, by rfl⟩
    · refine st1 ?_
      have hF := e_some hF
      have hq : some _ = some _ := hF
      cases hq
      exact en1


@[reducible] noncomputable def c_thalweglaw01_RiverShallow : Con := conF F_thalweglaw01_RiverShallow (fun x => match x with | (a0, a1) => [(V.agg (eTthalweglaw01_Forecast a0)), (V.sl (recs eTPass (a1)) (a1).length)]) (fun r => (V.v (.bool (r))))
theorem fl_thalweglaw01_RiverShallow_27 : flatOf Try.prog 9 27 = some [true, true] := by kernel_rfl
theorem eg_thalweglaw01_RiverShallow_27 : Try.prog.eqGuardType Try.prog.depth 27 = false := by kernel_rfl
theorem ag_thalweglaw01_RiverShallow_27 : aggOf Try.prog 27 = some true := by kernel_rfl
theorem fl_thalweglaw01_RiverShallow_77 : flatOf Try.prog 9 77 = some [true, true, true] := by kernel_rfl
theorem eg_thalweglaw01_RiverShallow_77 : Try.prog.eqGuardType Try.prog.depth 77 = false := by kernel_rfl
theorem ag_thalweglaw01_RiverShallow_77 : aggOf Try.prog 77 = some true := by kernel_rfl
theorem h_thalweglaw01_RiverShallow : Has Try.prog 8 c_thalweglaw01_RiverShallow := by
  refine hasF (ctx_cons h_thalwegref01_Shallowest (ctx_cons h_thalwegref01_Way (ctx_cons h_river_Shallowest (ctx_cons h_thalwegref01_Start (ctx_cons h_thalweglaw01_forecast (ctx_cons h_thalwegref01_Valid (ctx_cons h_thalweglaw01_copied (ctx_cons h_thalweglaw01_known (ctx_cons h_thalweglaw01_large ctx_nil))))))))) mix Try.func8 rfl (by kernel_rfl) ?_
  rintro ⟨a0, a1⟩ r hF
  refine ⟨of_decide_eq_true rfl, ?_⟩
  refine st1 ?_
  obtain ⟨_, h, hF⟩ := e_bind hF
  (first | refine g_call h lv1 ?_ | refine g_callT h lv1 ?_)
  (conv => arg 1; whnf)
  refine st1 ?_
  rcases e_bif hF with ⟨hb1, hF⟩ | ⟨hb1, hF⟩ <;> (first | rw [hb1] | (conv => arg 7; rw [hb1]) | (conv => arg 9; rw [hb1]))
  · refine st1 ?_
    obtain ⟨_, h, hF⟩ := e_bind hF
    (first | refine g_call h lv1 ?_ | refine g_callT h lv1 ?_)
    (conv => arg 1; whnf)
    refine st1 ?_
    have hq : some _ = some _ := hF
    cases hq
    exact en1
  · refine st1 ?_
    rcases e_bif hF with ⟨hb2, hF⟩ | ⟨hb2, hF⟩ <;> (first | rw [hb2] | (conv => arg 7; rw [hb2]) | (conv => arg 9; rw [hb2]))
    · refine st1 ?_
      obtain ⟨_, h, hF⟩ := e_bind hF
      (first | refine g_call h lv1 ?_ | refine g_callT h lv1 ?_)
      (conv => arg 1; whnf)
      refine st1 ?_
      have hq : some _ = some _ := hF
      cases hq
      exact en1
    · refine st1 ?_
      refine st_loopF (e_assoc hF) () [(0, _)] ⟨sT, sS, by rfl, by rfl⟩ ?_
      · rintro n ⟨_, _⟩ _ x hx1 hF
        (conv => arg 7; whnf); (conv => arg 8; whnf); (conv => arg 9; whnf)
        refine st1 ?_
        rcases e_bif hF with ⟨hb7, hF⟩ | ⟨hb7, hF⟩ <;> (first | rw [hb7] | (conv => arg 7; rw [hb7]) | (conv => arg 9; rw [hb7]))
        · refine st1 ?_
          obtain ⟨_, h, hF⟩ := e_bind hF
          (first | refine o_ia (enc := eTPass) (s := 3) h (fun _ => rfl) (by decide) ?_ | refine o_iaT (enc := eTPass) (s := 3) h (fun _ => rfl) (by decide) ?_)
          intro _
          refine st1 ?_
          obtain ⟨_, h, hF⟩ := e_bind hF
          (first | refine g_call h lv1 ?_ | refine g_callT h lv1 ?_)
          (conv => arg 1; whnf)
          refine st1 ?_
          rcases e_bif hF with ⟨hb8, hF⟩ | ⟨hb8, hF⟩ <;> (first | rw [hb8] | (conv => arg 7; rw [hb8]) | (conv => arg 9; rw [hb8]))
          · refine st1 ?_
            exact k_loopF (e_some hF) hx1 () [(0, _)] ⟨sT, sS, by rfl, by rfl⟩
          · refine st1 ?_
            exact k_loopF (e_some hF) hx1 () [(0, _)] ⟨sT, sS, by rfl, by rfl⟩
        · refine st1 ?_
          have hF := e_some hF
          rcases e_bif hF with ⟨hb9, hF⟩ | ⟨hb9, hF⟩ <;> (first | rw [hb9] | (conv => arg 7; rw [hb9]) | (conv => arg 9; rw [hb9]))
          · refine st1 ?_
            obtain ⟨_, h, hF⟩ := e_bind hF
            (first | refine g_call h lv1 ?_ | refine g_callT h lv1 ?_)
            (conv => arg 1; whnf)
            refine st1 ?_
            have hq : some _ = some _ := hF
            cases hq
            exact en1
          · refine st1 ?_
            obtain ⟨_, h, hF⟩ := e_bind hF
            (first | refine o_app (enc := eTPass) (s := 3) h (fun _ => rfl) ?_ | refine o_appT (enc := eTPass) (s := 3) h (fun _ => rfl) ?_)
            refine st1 ?_
            obtain ⟨_, h, hF⟩ := e_bind hF
            (first | refine g_call h lv1 ?_ | refine g_callT h lv1 ?_)
            (conv => arg 1; whnf)
            refine st1 ?_
            obtain ⟨_, h, hF⟩ := e_bind hF
            (first | refine g_call h lv1 ?_ | refine g_callT h lv1 ?_)
            (conv => arg 1; whnf)
            refine st1 ?_
            obtain ⟨_, h, hF⟩ := e_bind hF
            (first | refine g_call h lv1 ?_ | refine g_callT h lv1 ?_)
            (conv => arg 1; whnf)
            refine st1 ?_
            refine st_loopF (e_assoc hF) _ [(0, _), (9, _), (24, _)] ⟨sT, sS, by rfl, by rfl⟩ ?_
            · rintro n _ _ x hx1 hF
              (conv => arg 7; whnf); (conv => arg 8; whnf); (conv => arg 9; whnf)
              refine st1 ?_
              rcases e_bif hF with ⟨hb14, hF⟩ | ⟨hb14, hF⟩ <;> (first | rw [hb14] | (conv => arg 7; rw [hb14]) | (conv => arg 9; rw [hb14]))
              · refine st1 ?_
                obtain ⟨_, hi21, hF⟩ := e_bind hF
                (first | refine go_req (oidx_ok hi21 (by decide)) ?_ | refine goT_req (oidx_ok hi21 (by decide)) ?_)
                (conv => arg 1; whnf)
                refine st1 ?_
                (first | refine o_ldA (enc := eTPass) (s := 3) hi21 (fun _ => rfl) (by decide) ?_ | refine o_ldB (enc := eTPass) (s := 3) hi21 (fun _ => rfl) (by decide) ?_ | refine o_ldC (enc := eTPass) (s := 3) hi21 (fun _ => rfl) (by decide) ?_ | refine o_ldD (enc := eTPass) (s := 3) hi21 (fun _ => rfl) (by decide) ?_ | refine o_ldAT (enc := eTPass) (s := 3) hi21 (fun _ => rfl) (by decide) ?_ | refine o_ldBT (enc := eTPass) (s := 3) hi21 (fun _ => rfl) (by decide) ?_ | refine o_ldCT (enc := eTPass) (s := 3) hi21 (fun _ => rfl) (by decide) ?_ | refine o_ldDT (enc := eTPass) (s := 3) hi21 (fun _ => rfl) (by decide) ?_)
                (conv => arg 1; whnf)
                refine st1 ?_
                obtain ⟨_, h, hF⟩ := e_bind hF
                (first | refine o_ia (enc := eTPass) (s := 3) h (fun _ => rfl) (by decide) ?_ | refine o_iaT (enc := eTPass) (s := 3) h (fun _ => rfl) (by decide) ?_)
                intro _
                refine st1 ?_
                rw [fl_thalweglaw01_RiverShallow_77, eg_thalweglaw01_RiverShallow_77, ag_thalweglaw01_RiverShallow_77]
                (conv => arg 1; whnf)
                refine st1 ?_
                rcases e_bif hF with ⟨hb15, hF⟩ | ⟨hb15, hF⟩ <;> (first | rw [hb15] | (conv => arg 7; rw [hb15]) | (conv => arg 9; rw [hb15]))
                · refine st1 ?_
                  have hF := e_some hF
                  have hq : some _ = some _ := hF
                  cases hq
                  exact en1
                · refine st1 ?_
                  exact k_loopF (e_some hF) hx1 _ [(0, _), (9, _), (24, _)] ⟨sT, sS, by rfl, by rfl⟩
              · refine st1 ?_
                have hF := e_some hF
                obtain ⟨_, h, hF⟩ := e_bind hF
                (first | refine g_call h lv1 ?_ | refine g_callT h lv1 ?_)
                (conv => arg 1; whnf)
                refine st1 ?_
                rcases e_bif hF with ⟨hb16, hF⟩ | ⟨hb16, hF⟩ <;> (first | rw [hb16] | (conv => arg 7; rw [hb16]) | (conv => arg 9; rw [hb16]))
                · refine st1 ?_
                  obtain ⟨_, h, hF⟩ := e_bind hF
                  (first | refine o_ia (enc := (eS eTBounds)) (s := 1) h (fun _ => rfl) (by decide) ?_ | refine o_iaT (enc := (eS eTBounds)) (s := 1) h (fun _ => rfl) (by decide) ?_)
                  intro _
                  refine st1 ?_
                  obtain ⟨_, h, hF⟩ := e_bind hF
                  (first | refine g_call h lv1 ?_ | refine g_callT h lv1 ?_)
                  (conv => arg 1; whnf)
                  refine st1 ?_
                  rcases e_bif hF with ⟨hb17, hF⟩ | ⟨hb17, hF⟩ <;> (first | rw [hb17] | (conv => arg 7; rw [hb17]) | (conv => arg 9; rw [hb17]))
                  · refine st1 ?_
                    rcases e_bif hF with ⟨hb18, hF⟩ | ⟨hb18, hF⟩ <;> (first | rw [hb18] | (conv => arg 7; rw [hb18]) | (conv => arg 9; rw [hb18]))
                    · refine st1 ?_
                      rw [fl_thalweglaw01_RiverShallow_27, eg_thalweglaw01_RiverShallow_27, ag_thalweglaw01_RiverShallow_27]
                      (conv => arg 1; whnf)
                      refine st1 ?_
                      rcases e_bif hF with ⟨hb19, hF⟩ | ⟨hb19, hF⟩ <;> (first | rw [hb19] | (conv => arg 7; rw [hb19]) | (conv => arg 9; rw [hb19]))
                      · refine st1 ?_
                        rcases e_bif hF with ⟨hb20, hF⟩ | ⟨hb20, hF⟩ <;> (first | rw [hb20] | (conv => arg 7; rw [hb20]) | (conv => arg 9; rw [hb20]))
                        · refine st1 ?_
                          rcases e_bif hF with ⟨hb21, hF⟩ | ⟨hb21, hF⟩ <;> (first | rw [hb21] | (conv => arg 7; rw [hb21]) | (conv => arg 9; rw [hb21]))
                          · refine st1 ?_
                            obtain ⟨_, h, hF⟩ := e_bind hF
                            (first | refine g_call h lv1 ?_ | refine g_callT h lv1 ?_)
                            (conv => arg 1; whnf)
                            refine st1 ?_
                            have hq : some _ = some _ := hF
                            cases hq
                            exact en1
                          · refine st1 ?_
                            have hq : some _ = some _ := hF
                            cases hq
                            exact en1
                        · refine st1 ?_
                          have hq : some _ = some _ := hF
                          cases hq
                          exact en1
                      · refine st1 ?_
                        have hq : some _ = some _ := hF
                        cases hq
                        exact en1
                    · refine st1 ?_
                      have hq : some _ = some _ := hF
                      cases hq
                      exact en1
                  · refine st1 ?_
                    obtain ⟨_, h, hF⟩ := e_bind hF
                    (first | refine g_call h lv1 ?_ | refine g_callT h lv1 ?_)
                    (conv => arg 1; whnf)
                    refine st1 ?_
                    rcases e_bif hF with ⟨hb22, hF⟩ | ⟨hb22, hF⟩ <;> (first | rw [hb22] | (conv => arg 7; rw [hb22]) | (conv => arg 9; rw [hb22]))
                    · refine st1 ?_
                      rw [fl_thalweglaw01_RiverShallow_27, eg_thalweglaw01_RiverShallow_27, ag_thalweglaw01_RiverShallow_27]
                      (conv => arg 1; whnf)
                      refine st1 ?_
                      rcases e_bif hF with ⟨hb23, hF⟩ | ⟨hb23, hF⟩ <;> (first | rw [hb23] | (conv => arg 7; rw [hb23]) | (conv => arg 9; rw [hb23]))
                      · refine st1 ?_
                        rcases e_bif hF with ⟨hb24, hF⟩ | ⟨hb24, hF⟩ <;> (first | rw [hb24] | (conv => arg 7; rw [hb24]) | (conv => arg 9; rw [hb24]))
                        · refine st1 ?_
                          rcases e_bif hF with ⟨hb25, hF⟩ | ⟨hb25, hF⟩ <;> (first | rw [hb25] | (conv => arg 7; rw [hb25]) | (conv => arg 9; rw [hb25]))
                          · refine st1 ?_
                            obtain ⟨_, h, hF⟩ := e_bind hF
                            (first | refine g_call h lv1 ?_ | refine g_callT h lv1 ?_)
                            (conv => arg 1; whnf)
                            refine st1 ?_
                            have hq : some _ = some _ := hF
                            cases hq
                            exact en1
                          · refine st1 ?_
                            have hq : some _ = some _ := hF
                            cases hq
                            exact en1
                        · refine st1 ?_
                          have hq : some _ = some _ := hF
                          cases hq
                          exact en1
                      · refine st1 ?_
                        have hq : some _ = some _ := hF
                        cases hq
                        exact en1
                    · refine st1 ?_
                      have hq : some _ = some _ := hF
                      cases hq
                      exact en1
                · refine st1 ?_
                  (first | rw [(eqF_ne hb16)] | (conv => arg 7; rw [(eqF_ne hb16)]) | (conv => arg 9; rw [(eqF_ne hb16)]))
                  refine st1 ?_
                  rcases e_bif hF with ⟨hb26, hF⟩ | ⟨hb26, hF⟩ <;> (first | rw [hb26] | (conv => arg 7; rw [hb26]) | (conv => arg 9; rw [hb26]))
                  · refine st1 ?_
                    rw [fl_thalweglaw01_RiverShallow_27, eg_thalweglaw01_RiverShallow_27, ag_thalweglaw01_RiverShallow_27]
                    (conv => arg 1; whnf)
                    refine st1 ?_
                    rcases e_bif hF with ⟨hb27, hF⟩ | ⟨hb27, hF⟩ <;> (first | rw [hb27] | (conv => arg 7; rw [hb27]) | (conv => arg 9; rw [hb27]))
                    · refine st1 ?_
                      rcases e_bif hF with ⟨hb28, hF⟩ | ⟨hb28, hF⟩ <;> (first | rw [hb28] | (conv => arg 7; rw [hb28]) | (conv => arg 9; rw [hb28]))
                      · refine st1 ?_
                        rcases e_bif hF with ⟨hb29, hF⟩ | ⟨hb29, hF⟩ <;> (first | rw [hb29] | (conv => arg 7; rw [hb29]) | (conv => arg 9; rw [hb29]))
                        · refine st1 ?_
                          obtain ⟨_, h, hF⟩ := e_bind hF
                          (first | refine g_call h lv1 ?_ | refine g_callT h lv1 ?_)
                          (conv => arg 1; whnf)
                          refine st1 ?_
                          have hq : some _ = some _ := hF
                          cases hq
                          exact en1
                        · refine st1 ?_
                          have hq : some _ = some _ := hF
                          cases hq
                          exact en1
                      · refine st1 ?_
                        have hq : some _ = some _ := hF
                        cases hq
                        exact en1
                    · refine st1 ?_
                      have hq : some _ = some _ := hF
                      cases hq
                      exact en1
                  · refine st1 ?_
                    have hq : some _ = some _ := hF
                    cases hq
                    exact en1
end Go.Ev
