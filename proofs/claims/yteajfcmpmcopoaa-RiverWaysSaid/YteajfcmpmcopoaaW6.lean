/- A part of the proof of RiverDepths. -/
import Derived.Test.YteajfcmpmcopoaaW5
/- The functions do what is said. -/
set_option linter.unusedVariables false
set_option linter.unusedSimpArgs false
namespace Go.Ev
open Go.Proofs
set_option maxHeartbeats 8000000
set_option maxRecDepth 100000
@[reducible] noncomputable def c_river_shoalAt : Con := conF F_river_shoalAt (fun x => match x with | (a0, a1) => [(V.agg (eTShoal a0)), (V.v (.int .i64 (a1)))]) (fun r => (V.agg (eTBounds r)))
theorem h_river_shoalAt : Has Try.prog 112 c_river_shoalAt := by
  refine hasF (ctx_cons h_numbers_Up (ctx_cons h_numbers_Down ctx_nil)) mix Try.func112 rfl (by kernel_rfl) ?_
  rintro ⟨a0, a1⟩ r hF
  refine ⟨of_decide_eq_true rfl, ?_⟩
  refine st1 ?_
  obtain ⟨_, h, hF⟩ := e_bind hF
  (first | refine g_call h lv1 ?_ | refine g_callT h lv1 ?_)
  (conv => arg 1; whnf)
  refine st1 ?_
  obtain ⟨_, h, hF⟩ := e_bind hF
  (first | refine g_call h lv1 ?_ | refine g_callT h lv1 ?_)
  (conv => arg 1; whnf)
  refine st1 ?_
  have hq : some _ = some _ := hF
  cases hq
  exact en1


@[reducible] noncomputable def c_river_site_bed : Con := conF F_river_site_bed (fun x => match x with | (a0, a1) => [(V.agg (eTriver_site a0)), (V.v (.int .i64 (a1)))]) (fun r => (V.agg (eTBounds r)))
theorem h_river_site_bed : Has Try.prog 78 c_river_site_bed := by
  refine hasIF (G := xg [(96, Try.f96), (111, Try.f111)]) (ctx_cons h_river_shoalAt ctx_nil) (gok_cons Try.func96 rfl rfl (gok_cons Try.func111 rfl rfl (gok_nil))) mix 12 Try.func78 rfl (by kernel_rfl) ?_
  rintro ⟨a0, a1⟩ r hF
  refine ⟨rfl, ?_⟩
  refine sw1 ?_
  refine ws_loopF (e_assoc hF) () (idr 14 ++ []) [12, 13] ⟨sT, sW, by rfl, by rfl, by rfl, by rfl⟩ ?_
  · rintro n ⟨_, _, _⟩ _ x hx1 hF
    (conv => arg 9; arg 1; whnf); (conv => arg 9; arg 3; whnf); (conv => arg 9; arg 4; whnf)
    refine sw1 ?_
    rcases e_bif hF with ⟨hb5, hF⟩ | ⟨hb5, hF⟩ <;> (first | rw [hb5] | (conv => arg 7; rw [hb5]) | (conv => arg 9; rw [hb5]))
    · refine sw1 ?_
      obtain ⟨_, h, hF⟩ := e_bind hF
      (first | refine o_ia (enc := eTShoal) (s := 6) h (fun _ => rfl) (by decide) ?_ | refine o_iaT (enc := eTShoal) (s := 6) h (fun _ => rfl) (by decide) ?_)
      intro _
      refine sw1 ?_
      rcases e_bif hF with ⟨hb6, hF⟩ | ⟨hb6, hF⟩ <;> (first | rw [hb6] | (conv => arg 7; rw [hb6]) | (conv => arg 9; rw [hb6]))
      · refine sw1 ?_
        obtain ⟨_, h, hF⟩ := e_bind hF
        (first | refine g_call h lv1 ?_ | refine g_callT h lv1 ?_)
        (conv => arg 1; whnf)
        refine sw1 ?_
        exact kw_loopF (e_some hF) hx1 () (idr 14 ++ []) ⟨sT, sW, by rfl, by rfl, by rfl, by rfl⟩
      · refine sw1 ?_
        exact kw_loopF (e_some hF) hx1 () (idr 14 ++ []) ⟨sT, sW, by rfl, by rfl, by rfl, by rfl⟩
    · refine sw1 ?_
      have hF := e_some hF
      refine kw_loopX 15 (of_decide_eq_true rfl) ?_
      refine sw1 ?_
      have hq : some _ = some _ := hF
      cases hq
      exact en1


@[reducible] noncomputable def c_river_Bed : Con := conF F_river_Bed (fun x => match x with | (a0, a1, a2) => [(V.agg (eTRiver a0)), (V.v (.int .i64 (a1))), (V.v (.int .i64 (a2)))]) (fun r => V.tup [(V.agg (eTBounds r.1)), (V.v (.int .i64 (r.2)))])
theorem h_river_Bed : Has Try.prog 39 c_river_Bed := by
  refine hasF (ctx_cons h_river_site_bed (ctx_cons h_river_find (ctx_cons h_numbers_Within (ctx_cons h_river_Check ctx_nil)))) mix Try.func39 rfl (by kernel_rfl) ?_
  rintro ⟨a0, a1, a2⟩ r hF
  refine ⟨of_decide_eq_true rfl, ?_⟩
  refine st1 ?_
  obtain ⟨_, h, hF⟩ := e_bind hF
  (first | refine g_call h lv1 ?_ | refine g_callT h lv1 ?_)
  (conv => arg 1; whnf)
  refine st1 ?_
  rcases e_bif hF with ⟨hb1, hF⟩ | ⟨hb1, hF⟩ <;> (first | rw [hb1] | (conv => arg 7; rw [hb1]) | (conv => arg 9; rw [hb1]))
  · refine st1 ?_
    have hq : some _ = some _ := hF
    cases hq
    exact en1
  · refine st1 ?_
    obtain ⟨_, h, hF⟩ := e_bind hF
    (first | refine g_call h lv1 ?_ | refine g_callT h lv1 ?_)
    (conv => arg 1; whnf)
    refine st1 ?_
    rcases e_bif hF with ⟨hb2, hF⟩ | ⟨hb2, hF⟩ <;> (first | rw [hb2] | (conv => arg 7; rw [hb2]) | (conv => arg 9; rw [hb2]))
    · refine st1 ?_
      have hq : some _ = some _ := hF
      cases hq
      exact en1
    · refine st1 ?_
      obtain ⟨_, h, hF⟩ := e_bind hF
      (first | refine g_call h lv1 ?_ | refine g_callT h lv1 ?_)
      (conv => arg 1; whnf)
      refine st1 ?_
      rcases e_bif hF with ⟨hb3, hF⟩ | ⟨hb3, hF⟩ <;> (first | rw [hb3] | (conv => arg 7; rw [hb3]) | (conv => arg 9; rw [hb3]))
      · refine st1 ?_
        have hq : some _ = some _ := hF
        cases hq
        exact en1
      · refine st1 ?_
        obtain ⟨_, h, hF⟩ := e_bind hF
        (first | refine g_call h lv1 ?_ | refine g_callT h lv1 ?_)
        (conv => arg 1; whnf)
        refine st1 ?_
        have hq : some _ = some _ := hF
        cases hq
        exact en1


@[reducible] noncomputable def c_river_stream_depth : Con := conF F_river_stream_depth (fun x => match x with | (a0, a1, a2) => [(V.agg (eTriver_stream a0)), (V.agg (eTriver_site a1)), (V.v (.int .i64 (a2)))]) (fun r => (V.agg (eTBounds r)))
theorem h_river_stream_depth : Has Try.prog 80 c_river_stream_depth := by
  refine hasF (ctx_cons h_river_site_bed (ctx_cons h_river_stream_level ctx_nil)) mix Try.func80 rfl (by kernel_rfl) ?_
  rintro ⟨a0, a1, a2⟩ r hF
  refine ⟨of_decide_eq_true rfl, ?_⟩
  refine st1 ?_
  obtain ⟨_, h, hF⟩ := e_bind hF
  (first | refine g_call h lv1 ?_ | refine g_callT h lv1 ?_)
  (conv => arg 1; whnf)
  refine st1 ?_
  obtain ⟨_, h, hF⟩ := e_bind hF
  (first | refine g_call h lv1 ?_ | refine g_callT h lv1 ?_)
  (conv => arg 1; whnf)
  refine st1 ?_
  have hq : some _ = some _ := hF
  cases hq
  exact en1


@[reducible] noncomputable def c_river_Depth : Con := conF F_river_Depth (fun x => match x with | (a0, a1, a2, a3) => [(V.agg (eTRiver a0)), (V.sl (recs (eS eTBounds) (a1)) (a1).length), (V.v (.int .i64 (a2))), (V.v (.int .i64 (a3)))]) (fun r => V.tup [(V.agg (eTBounds r.1)), (V.v (.int .i64 (r.2)))])
theorem h_river_Depth : Has Try.prog 40 c_river_Depth := by
  refine hasF (ctx_cons h_river_stream_depth (ctx_cons h_river_stream_findAt (ctx_cons h_river_run ctx_nil))) mix Try.func40 rfl (by kernel_rfl) ?_
  rintro ⟨a0, a1, a2, a3⟩ r hF
  refine ⟨of_decide_eq_true rfl, ?_⟩
  refine st1 ?_
  obtain ⟨_, h, hF⟩ := e_bind hF
  (first | refine g_call h lv1 ?_ | refine g_callT h lv1 ?_)
  (conv => arg 1; whnf)
  refine st1 ?_
  rcases e_bif hF with ⟨hb1, hF⟩ | ⟨hb1, hF⟩ <;> (first | rw [hb1] | (conv => arg 7; rw [hb1]) | (conv => arg 9; rw [hb1]))
  · refine st1 ?_
    have hq : some _ = some _ := hF
    cases hq
    exact en1
  · refine st1 ?_
    obtain ⟨_, h, hF⟩ := e_bind hF
    (first | refine g_call h lv1 ?_ | refine g_callT h lv1 ?_)
    (conv => arg 1; whnf)
    refine st1 ?_
    rcases e_bif hF with ⟨hb2, hF⟩ | ⟨hb2, hF⟩ <;> (first | rw [hb2] | (conv => arg 7; rw [hb2]) | (conv => arg 9; rw [hb2]))
    · refine st1 ?_
      have hq : some _ = some _ := hF
      cases hq
      exact en1
    · refine st1 ?_
      obtain ⟨_, h, hF⟩ := e_bind hF
      (first | refine g_call h lv1 ?_ | refine g_callT h lv1 ?_)
      (conv => arg 1; whnf)
      refine st1 ?_
      have hq : some _ = some _ := hF
      cases hq
      exact en1


@[reducible] noncomputable def c_thalwegref01_Bed : Con := conF F_thalwegref01_Bed (fun x => match x with | (a0, a1, a2) => [(V.agg (eTRiver a0)), (V.v (.int .i64 (a1))), (V.v (.int .i64 (a2)))]) (fun r => (V.agg (eTBounds r)))
theorem h_thalwegref01_Bed : Has Try.prog 42 c_thalwegref01_Bed := by
  refine hasF (ctx_cons h_thalwegref01_Of (ctx_cons h_thalwegref01_Ceil (ctx_cons h_thalwegref01_Floor ctx_nil))) mix Try.func42 rfl (by kernel_rfl) ?_
  rintro ⟨a0, a1, a2⟩ r hF
  refine ⟨of_decide_eq_true rfl, ?_⟩
  refine st1 ?_
  obtain ⟨_, h, hF⟩ := e_bind hF
  (first | refine g_call h lv1 ?_ | refine g_callT h lv1 ?_)
  (conv => arg 1; whnf)
  refine st1 ?_
  obtain ⟨_, h, hF⟩ := e_bind hF
  (first | refine o_ia (enc := eTReach) (s := 9) h (fun _ => rfl) (by decide) ?_ | refine o_iaT (enc := eTReach) (s := 9) h (fun _ => rfl) (by decide) ?_)
  intro _
  refine st1 ?_
  refine st_loopF (e_assoc hF) () [(0, _), (1, _), (10, _)] ⟨sT, sS, by rfl, by rfl⟩ ?_
  · rintro n ⟨_, _, _⟩ _ x hx1 hF
    (conv => arg 7; whnf); (conv => arg 8; whnf); (conv => arg 9; whnf)
    refine st1 ?_
    rcases e_bif hF with ⟨hb5, hF⟩ | ⟨hb5, hF⟩ <;> (first | rw [hb5] | (conv => arg 7; rw [hb5]) | (conv => arg 9; rw [hb5]))
    · refine st1 ?_
      obtain ⟨_, h, hF⟩ := e_bind hF
      (first | refine o_ia (enc := eTShoal) (s := 6) h (fun _ => rfl) (by decide) ?_ | refine o_iaT (enc := eTShoal) (s := 6) h (fun _ => rfl) (by decide) ?_)
      intro _
      refine st1 ?_
      rcases e_bif hF with ⟨hb6, hF⟩ | ⟨hb6, hF⟩ <;> (first | rw [hb6] | (conv => arg 7; rw [hb6]) | (conv => arg 9; rw [hb6]))
      · refine st1 ?_
        exact k_loopF (e_some hF) hx1 () [(0, _), (1, _), (10, _)] ⟨sT, sS, by rfl, by rfl⟩
      · refine st1 ?_
        obtain ⟨_, h, hF⟩ := e_bind hF
        (first | refine g_call h lv1 ?_ | refine g_callT h lv1 ?_)
        (conv => arg 1; whnf)
        refine st1 ?_
        obtain ⟨_, h, hF⟩ := e_bind hF
        (first | refine g_call h lv1 ?_ | refine g_callT h lv1 ?_)
        (conv => arg 1; whnf)
        refine st1 ?_
        exact k_loopF (e_some hF) hx1 () [(0, _), (1, _), (10, _)] ⟨sT, sS, by rfl, by rfl⟩
    · refine st1 ?_
      have hF := e_some hF
      have hq : some _ = some _ := hF
      cases hq
      exact en1


@[reducible] noncomputable def c_thalwegref01_Depth : Con := conF F_thalwegref01_Depth (fun x => match x with | (a0, a1, a2, a3) => [(V.agg (eTRiver a0)), (V.sl (recs (eS eTBounds) (a1)) (a1).length), (V.v (.int .i64 (a2))), (V.v (.int .i64 (a3)))]) (fun r => (V.agg (eTBounds r)))
theorem h_thalwegref01_Depth : Has Try.prog 43 c_thalwegref01_Depth := by
  refine hasF (ctx_cons h_thalwegref01_Of (ctx_cons h_thalwegref01_Bed (ctx_cons h_thalwegref01_Flow (ctx_cons h_thalwegref01_Level ctx_nil)))) mix Try.func43 rfl (by kernel_rfl) ?_
  rintro ⟨a0, a1, a2, a3⟩ r hF
  refine ⟨of_decide_eq_true rfl, ?_⟩
  refine st1 ?_
  obtain ⟨_, h, hF⟩ := e_bind hF
  (first | refine g_call h lv1 ?_ | refine g_callT h lv1 ?_)
  (conv => arg 1; whnf)
  refine st1 ?_
  obtain ⟨_, h, hF⟩ := e_bind hF
  (first | refine o_ia (enc := eTReach) (s := 9) h (fun _ => rfl) (by decide) ?_ | refine o_iaT (enc := eTReach) (s := 9) h (fun _ => rfl) (by decide) ?_)
  intro _
  refine st1 ?_
  obtain ⟨_, h, hF⟩ := e_bind hF
  (first | refine g_call h lv1 ?_ | refine g_callT h lv1 ?_)
  (conv => arg 1; whnf)
  refine st1 ?_
  obtain ⟨_, h, hF⟩ := e_bind hF
  (first | refine g_call h lv1 ?_ | refine g_callT h lv1 ?_)
  (conv => arg 1; whnf)
  refine st1 ?_
  obtain ⟨_, h, hF⟩ := e_bind hF
  (first | refine g_call h lv1 ?_ | refine g_callT h lv1 ?_)
  (conv => arg 1; whnf)
  refine st1 ?_
  have hq : some _ = some _ := hF
  cases hq
  exact en1


@[reducible] noncomputable def c_thalweglaw01_RiverDepths : Con := conF F_thalweglaw01_RiverDepths (fun x => match x with | (a0, a1, a2) => [(V.agg (eTthalweglaw01_Forecast a0)), (V.v (.int .i64 (a1))), (V.v (.int .i64 (a2)))]) (fun r => (V.v (.bool (r))))
theorem fl_thalweglaw01_RiverDepths_27 : flatOf Try.prog 9 27 = some [true, true] := by kernel_rfl
theorem eg_thalweglaw01_RiverDepths_27 : Try.prog.eqGuardType Try.prog.depth 27 = false := by kernel_rfl
theorem ag_thalweglaw01_RiverDepths_27 : aggOf Try.prog 27 = some true := by kernel_rfl
theorem h_thalweglaw01_RiverDepths : Has Try.prog 7 c_thalweglaw01_RiverDepths := by
  refine hasF (ctx_cons h_thalwegref01_Depth (ctx_cons h_thalwegref01_Bed (ctx_cons h_thalwegref01_Places (ctx_cons h_river_Depth (ctx_cons h_river_Bed (ctx_cons h_thalwegref01_In (ctx_cons h_thalwegref01_Start (ctx_cons h_thalweglaw01_forecast (ctx_cons h_thalwegref01_River (ctx_cons h_thalweglaw01_copied (ctx_cons h_thalweglaw01_known (ctx_cons h_thalweglaw01_large ctx_nil)))))))))))) mix Try.func7 rfl (by kernel_rfl) ?_
  rintro ⟨a0, a1, a2⟩ r hF
  refine ⟨of_decide_eq_true rfl, ?_⟩
  refine st1 ?_
  obtain ⟨_, h, hF⟩ := e_bind hF
  (first | refine g_call h lv1 ?_ | refine g_callT h lv1 ?_)
  (conv => arg 1; whnf)
  refine st1 ?_
  rcases e_bif hF with ⟨hb1, hF⟩ | ⟨hb1, hF⟩ <;> (first | rw [hb1] | (conv => arg 7; rw [hb1]) | (conv => arg 9; rw [hb1]))
  · refine st1 ?_
    obtain ⟨_, h, hF⟩ := e_bind hF
    (first | refine g_call h lv1 ?_ | refine g_callT h lv1 ?_)
    (conv => arg 1; whnf)
    refine st1 ?_
    have hq : some _ = some _ := hF
    cases hq
    exact en1
  · refine st1 ?_
    obtain ⟨_, h, hF⟩ := e_bind hF
    (first | refine g_call h lv1 ?_ | refine g_callT h lv1 ?_)
    (conv => arg 1; whnf)
    refine st1 ?_
    obtain ⟨_, h, hF⟩ := e_bind hF
    (first | refine g_call h lv1 ?_ | refine g_callT h lv1 ?_)
    (conv => arg 1; whnf)
    refine st1 ?_
    obtain ⟨_, h, hF⟩ := e_bind hF
    (first | refine g_call h lv1 ?_ | refine g_callT h lv1 ?_)
    (conv => arg 1; whnf)
    refine st1 ?_
    obtain ⟨_, h, hF⟩ := e_bind hF
    (first | refine g_call h lv1 ?_ | refine g_callT h lv1 ?_)
    (conv => arg 1; whnf)
    refine st1 ?_
    obtain ⟨_, h, hF⟩ := e_bind hF
    (first | refine g_call h lv1 ?_ | refine g_callT h lv1 ?_)
    (conv => arg 1; whnf)
    refine st1 ?_
    obtain ⟨_, h, hF⟩ := e_bind hF
    (first | refine g_call h lv1 ?_ | refine g_callT h lv1 ?_)
    (conv => arg 1; whnf)
    refine st1 ?_
    rcases e_bif hF with ⟨hb2, hF⟩ | ⟨hb2, hF⟩ <;> (first | rw [hb2] | (conv => arg 7; rw [hb2]) | (conv => arg 9; rw [hb2]))
    · refine st1 ?_
      obtain ⟨_, h, hF⟩ := e_bind hF
      (first | refine g_call h lv1 ?_ | refine g_callT h lv1 ?_)
      (conv => arg 1; whnf)
      refine st1 ?_
      rcases e_bif hF with ⟨hb3, hF⟩ | ⟨hb3, hF⟩ <;> (first | rw [hb3] | (conv => arg 7; rw [hb3]) | (conv => arg 9; rw [hb3]))
      · refine st1 ?_
        rcases e_bif hF with ⟨hb4, hF⟩ | ⟨hb4, hF⟩ <;> (first | rw [hb4] | (conv => arg 7; rw [hb4]) | (conv => arg 9; rw [hb4]))
        · refine st1 ?_
          have hq : some _ = some _ := hF
          cases hq
          exact en1
        · refine st1 ?_
          rw [fl_thalweglaw01_RiverDepths_27, eg_thalweglaw01_RiverDepths_27, ag_thalweglaw01_RiverDepths_27]
          (conv => arg 1; whnf)
          refine st1 ?_
          rcases e_bif hF with ⟨hb5, hF⟩ | ⟨hb5, hF⟩ <;> (first | rw [hb5] | (conv => arg 7; rw [hb5]) | (conv => arg 9; rw [hb5]))
          · refine st1 ?_
            have hq : some _ = some _ := hF
            cases hq
            exact en1
          · refine st1 ?_
            obtain ⟨_, h, hF⟩ := e_bind hF
            (first | refine g_call h lv1 ?_ | refine g_callT h lv1 ?_)
            (conv => arg 1; whnf)
            refine st1 ?_
            rcases e_bif hF with ⟨hb6, hF⟩ | ⟨hb6, hF⟩ <;> (first | rw [hb6] | (conv => arg 7; rw [hb6]) | (conv => arg 9; rw [hb6]))
            · refine st1 ?_
              rcases e_bif hF with ⟨hb7, hF⟩ | ⟨hb7, hF⟩ <;> (first | rw [hb7] | (conv => arg 7; rw [hb7]) | (conv => arg 9; rw [hb7]))
              · refine st1 ?_
                rw [fl_thalweglaw01_RiverDepths_27, eg_thalweglaw01_RiverDepths_27, ag_thalweglaw01_RiverDepths_27]
                (conv => arg 1; whnf)
                refine st1 ?_
                rcases e_bif hF with ⟨hb8, hF⟩ | ⟨hb8, hF⟩ <;> (first | rw [hb8] | (conv => arg 7; rw [hb8]) | (conv => arg 9; rw [hb8]))
                · refine st1 ?_
                  obtain ⟨_, h, hF⟩ := e_bind hF
                  (first | refine g_call h lv1 ?_ | refine g_callT h lv1 ?_)
                  (conv => arg 1; whnf)
                  refine st1 ?_
                  have hq : some _ = some _ := hF
                  cases hq
                  exact en1
                · refine st1 ?_
                  have hq : some _ = some _ := hF
                  cases hq
                  exact en1
              · refine st1 ?_
                have hq : some _ = some _ := hF
                cases hq
                exact en1
            · refine st1 ?_
              (first | rw [hb6] | (conv => arg 7; rw [hb6]) | (conv => arg 9; rw [hb6]))
              refine st1 ?_
              (first | rw [(eqF_ne hb6)] | (conv => arg 7; rw [(eqF_ne hb6)]) | (conv => arg 9; rw [(eqF_ne hb6)]))
              refine st1 ?_
              rcases e_bif hF with ⟨hb9, hF⟩ | ⟨hb9, hF⟩ <;> (first | rw [hb9] | (conv => arg 7; rw [hb9]) | (conv => arg 9; rw [hb9]))
              · refine st1 ?_
                rw [fl_thalweglaw01_RiverDepths_27, eg_thalweglaw01_RiverDepths_27, ag_thalweglaw01_RiverDepths_27]
                (conv => arg 1; whnf)
                refine st1 ?_
                rcases e_bif hF with ⟨hb10, hF⟩ | ⟨hb10, hF⟩ <;> (first | rw [hb10] | (conv => arg 7; rw [hb10]) | (conv => arg 9; rw [hb10]))
                · refine st1 ?_
                  obtain ⟨_, h, hF⟩ := e_bind hF
                  (first | refine g_call h lv1 ?_ | refine g_callT h lv1 ?_)
                  (conv => arg 1; whnf)
                  refine st1 ?_
                  have hq : some _ = some _ := hF
                  cases hq
                  exact en1
                · refine st1 ?_
                  have hq : some _ = some _ := hF
                  cases hq
                  exact en1
              · refine st1 ?_
                have hq : some _ = some _ := hF
                cases hq
                exact en1
      · refine st1 ?_
        rcases e_bif hF with ⟨hb11, hF⟩ | ⟨hb11, hF⟩ <;> (first | rw [hb11] | (conv => arg 7; rw [hb11]) | (conv => arg 9; rw [hb11]))
        · refine st1 ?_
          have hq : some _ = some _ := hF
          cases hq
          exact en1
        · refine st1 ?_
          rw [fl_thalweglaw01_RiverDepths_27, eg_thalweglaw01_RiverDepths_27, ag_thalweglaw01_RiverDepths_27]
          (conv => arg 1; whnf)
          refine st1 ?_
          rcases e_bif hF with ⟨hb12, hF⟩ | ⟨hb12, hF⟩ <;> (first | rw [hb12] | (conv => arg 7; rw [hb12]) | (conv => arg 9; rw [hb12]))
          · refine st1 ?_
            have hq : some _ = some _ := hF
            cases hq
            exact en1
          · refine st1 ?_
            obtain ⟨_, h, hF⟩ := e_bind hF
            (first | refine g_call h lv1 ?_ | refine g_callT h lv1 ?_)
            (conv => arg 1; whnf)
            refine st1 ?_
            rcases e_bif hF with ⟨hb13, hF⟩ | ⟨hb13, hF⟩ <;> (first | rw [hb13] | (conv => arg 7; rw [hb13]) | (conv => arg 9; rw [hb13]))
            · refine st1 ?_
              rcases e_bif hF with ⟨hb14, hF⟩ | ⟨hb14, hF⟩ <;> (first | rw [hb14] | (conv => arg 7; rw [hb14]) | (conv => arg 9; rw [hb14]))
              · refine st1 ?_
                rw [fl_thalweglaw01_RiverDepths_27, eg_thalweglaw01_RiverDepths_27, ag_thalweglaw01_RiverDepths_27]
                (conv => arg 1; whnf)
                refine st1 ?_
                rcases e_bif hF with ⟨hb15, hF⟩ | ⟨hb15, hF⟩ <;> (first | rw [hb15] | (conv => arg 7; rw [hb15]) | (conv => arg 9; rw [hb15]))
                · refine st1 ?_
                  obtain ⟨_, h, hF⟩ := e_bind hF
                  (first | refine g_call h lv1 ?_ | refine g_callT h lv1 ?_)
                  (conv => arg 1; whnf)
                  refine st1 ?_
                  have hq : some _ = some _ := hF
                  cases hq
                  exact en1
                · refine st1 ?_
                  have hq : some _ = some _ := hF
                  cases hq
                  exact en1
              · refine st1 ?_
                have hq : some _ = some _ := hF
                cases hq
                exact en1
            · refine st1 ?_
              (first | rw [hb13] | (conv => arg 7; rw [hb13]) | (conv => arg 9; rw [hb13]))
              refine st1 ?_
              (first | rw [(eqF_ne hb13)] | (conv => arg 7; rw [(eqF_ne hb13)]) | (conv => arg 9; rw [(eqF_ne hb13)]))
              refine st1 ?_
              rcases e_bif hF with ⟨hb16, hF⟩ | ⟨hb16, hF⟩ <;> (first | rw [hb16] | (conv => arg 7; rw [hb16]) | (conv => arg 9; rw [hb16]))
              · refine st1 ?_
                rw [fl_thalweglaw01_RiverDepths_27, eg_thalweglaw01_RiverDepths_27, ag_thalweglaw01_RiverDepths_27]
                (conv => arg 1; whnf)
                refine st1 ?_
                rcases e_bif hF with ⟨hb17, hF⟩ | ⟨hb17, hF⟩ <;> (first | rw [hb17] | (conv => arg 7; rw [hb17]) | (conv => arg 9; rw [hb17]))
                · refine st1 ?_
                  obtain ⟨_, h, hF⟩ := e_bind hF
                  (first | refine g_call h lv1 ?_ | refine g_callT h lv1 ?_)
                  (conv => arg 1; whnf)
                  refine st1 ?_
                  have hq : some _ = some _ := hF
                  cases hq
                  exact en1
                · refine st1 ?_
                  have hq : some _ = some _ := hF
                  cases hq
                  exact en1
              · refine st1 ?_
                have hq : some _ = some _ := hF
                cases hq
                exact en1
    · refine st1 ?_
      obtain ⟨_, h, hF⟩ := e_bind hF
      (first | refine g_call h lv1 ?_ | refine g_callT h lv1 ?_)
      (conv => arg 1; whnf)
      refine st1 ?_
      obtain ⟨_, h, hF⟩ := e_bind hF
      (first | refine g_call h lv1 ?_ | refine g_callT h lv1 ?_)
      (conv => arg 1; whnf)
      refine st1 ?_
      obtain ⟨_, h, hF⟩ := e_bind hF
      (first | refine g_call h lv1 ?_ | refine g_callT h lv1 ?_)
      (conv => arg 1; whnf)
      refine st1 ?_
      rcases e_bif hF with ⟨hb18, hF⟩ | ⟨hb18, hF⟩ <;> (first | rw [hb18] | (conv => arg 7; rw [hb18]) | (conv => arg 9; rw [hb18]))
      · refine st1 ?_
        rcases e_bif hF with ⟨hb19, hF⟩ | ⟨hb19, hF⟩ <;> (first | rw [hb19] | (conv => arg 7; rw [hb19]) | (conv => arg 9; rw [hb19]))
        · refine st1 ?_
          have hq : some _ = some _ := hF
          cases hq
          exact en1
        · refine st1 ?_
          rw [fl_thalweglaw01_RiverDepths_27, eg_thalweglaw01_RiverDepths_27, ag_thalweglaw01_RiverDepths_27]
          (conv => arg 1; whnf)
          refine st1 ?_
          rcases e_bif hF with ⟨hb20, hF⟩ | ⟨hb20, hF⟩ <;> (first | rw [hb20] | (conv => arg 7; rw [hb20]) | (conv => arg 9; rw [hb20]))
          · refine st1 ?_
            have hq : some _ = some _ := hF
            cases hq
            exact en1
          · refine st1 ?_
            obtain ⟨_, h, hF⟩ := e_bind hF
            (first | refine g_call h lv1 ?_ | refine g_callT h lv1 ?_)
            (conv => arg 1; whnf)
            refine st1 ?_
            rcases e_bif hF with ⟨hb21, hF⟩ | ⟨hb21, hF⟩ <;> (first | rw [hb21] | (conv => arg 7; rw [hb21]) | (conv => arg 9; rw [hb21]))
            · refine st1 ?_
              rcases e_bif hF with ⟨hb22, hF⟩ | ⟨hb22, hF⟩ <;> (first | rw [hb22] | (conv => arg 7; rw [hb22]) | (conv => arg 9; rw [hb22]))
              · refine st1 ?_
                rcases e_bif hF with ⟨hb23, hF⟩ | ⟨hb23, hF⟩ <;> (first | rw [hb23] | (conv => arg 7; rw [hb23]) | (conv => arg 9; rw [hb23]))
                · refine st1 ?_
                  rw [fl_thalweglaw01_RiverDepths_27, eg_thalweglaw01_RiverDepths_27, ag_thalweglaw01_RiverDepths_27]
                  (conv => arg 1; whnf)
                  refine st1 ?_
                  rcases e_bif hF with ⟨hb24, hF⟩ | ⟨hb24, hF⟩ <;> (first | rw [hb24] | (conv => arg 7; rw [hb24]) | (conv => arg 9; rw [hb24]))
                  · refine st1 ?_
                    obtain ⟨_, h, hF⟩ := e_bind hF
                    (first | refine g_call h lv1 ?_ | refine g_callT h lv1 ?_)
                    (conv => arg 1; whnf)
                    refine st1 ?_
                    have hq : some _ = some _ := hF
                    cases hq
                    exact en1
                  · refine st1 ?_
                    have hq : some _ = some _ := hF
                    cases hq
                    exact en1
                · refine st1 ?_
                  have hq : some _ = some _ := hF
                  cases hq
                  exact en1
              · refine st1 ?_
                (first | rw [hb21] | (conv => arg 7; rw [hb21]) | (conv => arg 9; rw [hb21]))
                refine st1 ?_
                obtain ⟨_, h, hF⟩ := e_bind hF
                (first | refine o_ia (enc := (eS eTBounds)) (s := 1) h (fun _ => rfl) (by decide) ?_ | refine o_iaT (enc := (eS eTBounds)) (s := 1) h (fun _ => rfl) (by decide) ?_)
                intro _
                refine st1 ?_
                obtain ⟨_, h, hF⟩ := e_bind hF
                (first | refine g_call h lv1 ?_ | refine g_callT h lv1 ?_)
                (conv => arg 1; whnf)
                refine st1 ?_
                rcases e_bif hF with ⟨hb25, hF⟩ | ⟨hb25, hF⟩ <;> (first | rw [hb25] | (conv => arg 7; rw [hb25]) | (conv => arg 9; rw [hb25]))
                · refine st1 ?_
                  rcases e_bif hF with ⟨hb26, hF⟩ | ⟨hb26, hF⟩ <;> (first | rw [hb26] | (conv => arg 7; rw [hb26]) | (conv => arg 9; rw [hb26]))
                  · refine st1 ?_
                    rw [fl_thalweglaw01_RiverDepths_27, eg_thalweglaw01_RiverDepths_27, ag_thalweglaw01_RiverDepths_27]
                    (conv => arg 1; whnf)
                    refine st1 ?_
                    rcases e_bif hF with ⟨hb27, hF⟩ | ⟨hb27, hF⟩ <;> (first | rw [hb27] | (conv => arg 7; rw [hb27]) | (conv => arg 9; rw [hb27]))
                    · refine st1 ?_
                      obtain ⟨_, h, hF⟩ := e_bind hF
                      (first | refine g_call h lv1 ?_ | refine g_callT h lv1 ?_)
                      (conv => arg 1; whnf)
                      refine st1 ?_
                      have hq : some _ = some _ := hF
                      cases hq
                      exact en1
                    · refine st1 ?_
                      have hq : some _ = some _ := hF
                      cases hq
                      exact en1
                  · refine st1 ?_
                    have hq : some _ = some _ := hF
                    cases hq
                    exact en1
                · refine st1 ?_
                  (first | rw [(eqT_ne hb21)] | (conv => arg 7; rw [(eqT_ne hb21)]) | (conv => arg 9; rw [(eqT_ne hb21)]))
                  refine st1 ?_
                  rcases e_bif hF with ⟨hb28, hF⟩ | ⟨hb28, hF⟩ <;> (first | rw [hb28] | (conv => arg 7; rw [hb28]) | (conv => arg 9; rw [hb28]))
                  · refine st1 ?_
                    obtain ⟨_, h, hF⟩ := e_bind hF
                    (first | refine g_call h lv1 ?_ | refine g_callT h lv1 ?_)
                    (conv => arg 1; whnf)
                    refine st1 ?_
                    rw [fl_thalweglaw01_RiverDepths_27, eg_thalweglaw01_RiverDepths_27, ag_thalweglaw01_RiverDepths_27]
                    (conv => arg 1; whnf)
                    refine st1 ?_
                    rcases e_bif hF with ⟨hb29, hF⟩ | ⟨hb29, hF⟩ <;> (first | rw [hb29] | (conv => arg 7; rw [hb29]) | (conv => arg 9; rw [hb29]))
                    · refine st1 ?_
                      obtain ⟨_, h, hF⟩ := e_bind hF
                      (first | refine g_call h lv1 ?_ | refine g_callT h lv1 ?_)
                      (conv => arg 1; whnf)
                      refine st1 ?_
                      have hq : some _ = some _ := hF
                      cases hq
                      exact en1
                    · refine st1 ?_
                      have hq : some _ = some _ := hF
                      cases hq
                      exact en1
                  · refine st1 ?_
                    have hq : some _ = some _ := hF
                    cases hq
                    exact en1
            · refine st1 ?_
              (first | rw [hb21] | (conv => arg 7; rw [hb21]) | (conv => arg 9; rw [hb21]))
              refine st1 ?_
              (first | rw [(eqF_ne hb21)] | (conv => arg 7; rw [(eqF_ne hb21)]) | (conv => arg 9; rw [(eqF_ne hb21)]))
              refine st1 ?_
              rcases e_bif hF with ⟨hb30, hF⟩ | ⟨hb30, hF⟩ <;> (first | rw [hb30] | (conv => arg 7; rw [hb30]) | (conv => arg 9; rw [hb30]))
              · refine st1 ?_
                rw [fl_thalweglaw01_RiverDepths_27, eg_thalweglaw01_RiverDepths_27, ag_thalweglaw01_RiverDepths_27]
                (conv => arg 1; whnf)
                refine st1 ?_
                rcases e_bif hF with ⟨hb31, hF⟩ | ⟨hb31, hF⟩ <;> (first | rw [hb31] | (conv => arg 7; rw [hb31]) | (conv => arg 9; rw [hb31]))
                · refine st1 ?_
                  obtain ⟨_, h, hF⟩ := e_bind hF
                  (first | refine g_call h lv1 ?_ | refine g_callT h lv1 ?_)
                  (conv => arg 1; whnf)
                  refine st1 ?_
                  have hq : some _ = some _ := hF
                  cases hq
                  exact en1
                · refine st1 ?_
                  have hq : some _ = some _ := hF
                  cases hq
                  exact en1
              · refine st1 ?_
                have hq : some _ = some _ := hF
                cases hq
                exact en1
      · refine st1 ?_
        rcases e_bif hF with ⟨hb32, hF⟩ | ⟨hb32, hF⟩ <;> (first | rw [hb32] | (conv => arg 7; rw [hb32]) | (conv => arg 9; rw [hb32]))
        · refine st1 ?_
          rcases e_bif hF with ⟨hb33, hF⟩ | ⟨hb33, hF⟩ <;> (first | rw [hb33] | (conv => arg 7; rw [hb33]) | (conv => arg 9; rw [hb33]))
          · refine st1 ?_
            have hq : some _ = some _ := hF
            cases hq
            exact en1
          · refine st1 ?_
            rw [fl_thalweglaw01_RiverDepths_27, eg_thalweglaw01_RiverDepths_27, ag_thalweglaw01_RiverDepths_27]
            (conv => arg 1; whnf)
            refine st1 ?_
            rcases e_bif hF with ⟨hb34, hF⟩ | ⟨hb34, hF⟩ <;> (first | rw [hb34] | (conv => arg 7; rw [hb34]) | (conv => arg 9; rw [hb34]))
            · refine st1 ?_
              have hq : some _ = some _ := hF
              cases hq
              exact en1
            · refine st1 ?_
              obtain ⟨_, h, hF⟩ := e_bind hF
              (first | refine g_call h lv1 ?_ | refine g_callT h lv1 ?_)
              (conv => arg 1; whnf)
              refine st1 ?_
              rcases e_bif hF with ⟨hb35, hF⟩ | ⟨hb35, hF⟩ <;> (first | rw [hb35] | (conv => arg 7; rw [hb35]) | (conv => arg 9; rw [hb35]))
              · refine st1 ?_
                rcases e_bif hF with ⟨hb36, hF⟩ | ⟨hb36, hF⟩ <;> (first | rw [hb36] | (conv => arg 7; rw [hb36]) | (conv => arg 9; rw [hb36]))
                · refine st1 ?_
                  rw [fl_thalweglaw01_RiverDepths_27, eg_thalweglaw01_RiverDepths_27, ag_thalweglaw01_RiverDepths_27]
                  (conv => arg 1; whnf)
                  refine st1 ?_
                  rcases e_bif hF with ⟨hb37, hF⟩ | ⟨hb37, hF⟩ <;> (first | rw [hb37] | (conv => arg 7; rw [hb37]) | (conv => arg 9; rw [hb37]))
                  · refine st1 ?_
                    obtain ⟨_, h, hF⟩ := e_bind hF
                    (first | refine g_call h lv1 ?_ | refine g_callT h lv1 ?_)
                    (conv => arg 1; whnf)
                    refine st1 ?_
                    have hq : some _ = some _ := hF
                    cases hq
                    exact en1
                  · refine st1 ?_
                    have hq : some _ = some _ := hF
                    cases hq
                    exact en1
                · refine st1 ?_
                  have hq : some _ = some _ := hF
                  cases hq
                  exact en1
              · refine st1 ?_
                (first | rw [hb35] | (conv => arg 7; rw [hb35]) | (conv => arg 9; rw [hb35]))
                refine st1 ?_
                (first | rw [(eqF_ne hb35)] | (conv => arg 7; rw [(eqF_ne hb35)]) | (conv => arg 9; rw [(eqF_ne hb35)]))
                refine st1 ?_
                rcases e_bif hF with ⟨hb38, hF⟩ | ⟨hb38, hF⟩ <;> (first | rw [hb38] | (conv => arg 7; rw [hb38]) | (conv => arg 9; rw [hb38]))
                · refine st1 ?_
                  rw [fl_thalweglaw01_RiverDepths_27, eg_thalweglaw01_RiverDepths_27, ag_thalweglaw01_RiverDepths_27]
                  (conv => arg 1; whnf)
                  refine st1 ?_
                  rcases e_bif hF with ⟨hb39, hF⟩ | ⟨hb39, hF⟩ <;> (first | rw [hb39] | (conv => arg 7; rw [hb39]) | (conv => arg 9; rw [hb39]))
                  · refine st1 ?_
                    obtain ⟨_, h, hF⟩ := e_bind hF
                    (first | refine g_call h lv1 ?_ | refine g_callT h lv1 ?_)
                    (conv => arg 1; whnf)
                    refine st1 ?_
                    have hq : some _ = some _ := hF
                    cases hq
                    exact en1
                  · refine st1 ?_
                    have hq : some _ = some _ := hF
                    cases hq
                    exact en1
                · refine st1 ?_
                  have hq : some _ = some _ := hF
                  cases hq
                  exact en1
        · refine st1 ?_
          obtain ⟨_, h, hF⟩ := e_bind hF
          (first | refine g_call h lv1 ?_ | refine g_callT h lv1 ?_)
          (conv => arg 1; whnf)
          refine st1 ?_
          rcases e_bif hF with ⟨hb40, hF⟩ | ⟨hb40, hF⟩ <;> (first | rw [hb40] | (conv => arg 7; rw [hb40]) | (conv => arg 9; rw [hb40]))
          · refine st1 ?_
            rcases e_bif hF with ⟨hb41, hF⟩ | ⟨hb41, hF⟩ <;> (first | rw [hb41] | (conv => arg 7; rw [hb41]) | (conv => arg 9; rw [hb41]))
            · refine st1 ?_
              have hq : some _ = some _ := hF
              cases hq
              exact en1
            · refine st1 ?_
              rw [fl_thalweglaw01_RiverDepths_27, eg_thalweglaw01_RiverDepths_27, ag_thalweglaw01_RiverDepths_27]
              (conv => arg 1; whnf)
              refine st1 ?_
              rcases e_bif hF with ⟨hb42, hF⟩ | ⟨hb42, hF⟩ <;> (first | rw [hb42] | (conv => arg 7; rw [hb42]) | (conv => arg 9; rw [hb42]))
              · refine st1 ?_
                have hq : some _ = some _ := hF
                cases hq
                exact en1
              · refine st1 ?_
                obtain ⟨_, h, hF⟩ := e_bind hF
                (first | refine g_call h lv1 ?_ | refine g_callT h lv1 ?_)
                (conv => arg 1; whnf)
                refine st1 ?_
                rcases e_bif hF with ⟨hb43, hF⟩ | ⟨hb43, hF⟩ <;> (first | rw [hb43] | (conv => arg 7; rw [hb43]) | (conv => arg 9; rw [hb43]))
                · refine st1 ?_
                  (first | rw [hb43] | (conv => arg 7; rw [hb43]) | (conv => arg 9; rw [hb43]))
                  refine st1 ?_
                  obtain ⟨_, h, hF⟩ := e_bind hF
                  (first | refine o_ia (enc := (eS eTBounds)) (s := 1) h (fun _ => rfl) (by decide) ?_ | refine o_iaT (enc := (eS eTBounds)) (s := 1) h (fun _ => rfl) (by decide) ?_)
                  intro _
                  refine st1 ?_
                  obtain ⟨_, h, hF⟩ := e_bind hF
                  (first | refine g_call h lv1 ?_ | refine g_callT h lv1 ?_)
                  (conv => arg 1; whnf)
                  refine st1 ?_
                  rcases e_bif hF with ⟨hb44, hF⟩ | ⟨hb44, hF⟩ <;> (first | rw [hb44] | (conv => arg 7; rw [hb44]) | (conv => arg 9; rw [hb44]))
                  · refine st1 ?_
                    rcases e_bif hF with ⟨hb45, hF⟩ | ⟨hb45, hF⟩ <;> (first | rw [hb45] | (conv => arg 7; rw [hb45]) | (conv => arg 9; rw [hb45]))
                    · refine st1 ?_
                      rw [fl_thalweglaw01_RiverDepths_27, eg_thalweglaw01_RiverDepths_27, ag_thalweglaw01_RiverDepths_27]
                      (conv => arg 1; whnf)
                      refine st1 ?_
                      rcases e_bif hF with ⟨hb46, hF⟩ | ⟨hb46, hF⟩ <;> (first | rw [hb46] | (conv => arg 7; rw [hb46]) | (conv => arg 9; rw [hb46]))
                      · refine st1 ?_
                        obtain ⟨_, h, hF⟩ := e_bind hF
                        (first | refine g_call h lv1 ?_ | refine g_callT h lv1 ?_)
                        (conv => arg 1; whnf)
                        refine st1 ?_
                        have hq : some _ = some _ := hF
                        cases hq
                        exact en1
                      · refine st1 ?_
                        have hq : some _ = some _ := hF
                        cases hq
                        exact en1
                    · refine st1 ?_
                      have hq : some _ = some _ := hF
                      cases hq
                      exact en1
                  · refine st1 ?_
                    (first | rw [(eqT_ne hb43)] | (conv => arg 7; rw [(eqT_ne hb43)]) | (conv => arg 9; rw [(eqT_ne hb43)]))
                    refine st1 ?_
                    rcases e_bif hF with ⟨hb47, hF⟩ | ⟨hb47, hF⟩ <;> (first | rw [hb47] | (conv => arg 7; rw [hb47]) | (conv => arg 9; rw [hb47]))
                    · refine st1 ?_
                      obtain ⟨_, h, hF⟩ := e_bind hF
                      (first | refine g_call h lv1 ?_ | refine g_callT h lv1 ?_)
                      (conv => arg 1; whnf)
                      refine st1 ?_
                      rw [fl_thalweglaw01_RiverDepths_27, eg_thalweglaw01_RiverDepths_27, ag_thalweglaw01_RiverDepths_27]
                      (conv => arg 1; whnf)
                      refine st1 ?_
                      rcases e_bif hF with ⟨hb48, hF⟩ | ⟨hb48, hF⟩ <;> (first | rw [hb48] | (conv => arg 7; rw [hb48]) | (conv => arg 9; rw [hb48]))
                      · refine st1 ?_
                        obtain ⟨_, h, hF⟩ := e_bind hF
                        (first | refine g_call h lv1 ?_ | refine g_callT h lv1 ?_)
                        (conv => arg 1; whnf)
                        refine st1 ?_
                        have hq : some _ = some _ := hF
                        cases hq
                        exact en1
                      · refine st1 ?_
                        have hq : some _ = some _ := hF
                        cases hq
                        exact en1
                    · refine st1 ?_
                      have hq : some _ = some _ := hF
                      cases hq
                      exact en1
                · refine st1 ?_
                  (first | rw [hb43] | (conv => arg 7; rw [hb43]) | (conv => arg 9; rw [hb43]))
                  refine st1 ?_
                  (first | rw [(eqF_ne hb43)] | (conv => arg 7; rw [(eqF_ne hb43)]) | (conv => arg 9; rw [(eqF_ne hb43)]))
                  refine st1 ?_
                  rcases e_bif hF with ⟨hb49, hF⟩ | ⟨hb49, hF⟩ <;> (first | rw [hb49] | (conv => arg 7; rw [hb49]) | (conv => arg 9; rw [hb49]))
                  · refine st1 ?_
                    rw [fl_thalweglaw01_RiverDepths_27, eg_thalweglaw01_RiverDepths_27, ag_thalweglaw01_RiverDepths_27]
                    (conv => arg 1; whnf)
                    refine st1 ?_
                    rcases e_bif hF with ⟨hb50, hF⟩ | ⟨hb50, hF⟩ <;> (first | rw [hb50] | (conv => arg 7; rw [hb50]) | (conv => arg 9; rw [hb50]))
                    · refine st1 ?_
                      obtain ⟨_, h, hF⟩ := e_bind hF
                      (first | refine g_call h lv1 ?_ | refine g_callT h lv1 ?_)
                      (conv => arg 1; whnf)
                      refine st1 ?_
                      have hq : some _ = some _ := hF
                      cases hq
                      exact en1
                    · refine st1 ?_
                      have hq : some _ = some _ := hF
                      cases hq
                      exact en1
                  · refine st1 ?_
                    have hq : some _ = some _ := hF
                    cases hq
                    exact en1
          · refine st1 ?_
            rcases e_bif hF with ⟨hb51, hF⟩ | ⟨hb51, hF⟩ <;> (first | rw [hb51] | (conv => arg 7; rw [hb51]) | (conv => arg 9; rw [hb51]))
            · refine st1 ?_
              have hq : some _ = some _ := hF
              cases hq
              exact en1
            · refine st1 ?_
              obtain ⟨_, h, hF⟩ := e_bind hF
              (first | refine g_call h lv1 ?_ | refine g_callT h lv1 ?_)
              (conv => arg 1; whnf)
              refine st1 ?_
              rw [fl_thalweglaw01_RiverDepths_27, eg_thalweglaw01_RiverDepths_27, ag_thalweglaw01_RiverDepths_27]
              (conv => arg 1; whnf)
              refine st1 ?_
              rcases e_bif hF with ⟨hb52, hF⟩ | ⟨hb52, hF⟩ <;> (first | rw [hb52] | (conv => arg 7; rw [hb52]) | (conv => arg 9; rw [hb52]))
              · refine st1 ?_
                have hq : some _ = some _ := hF
                cases hq
                exact en1
              · refine st1 ?_
                obtain ⟨_, h, hF⟩ := e_bind hF
                (first | refine g_call h lv1 ?_ | refine g_callT h lv1 ?_)
                (conv => arg 1; whnf)
                refine st1 ?_
                rcases e_bif hF with ⟨hb53, hF⟩ | ⟨hb53, hF⟩ <;> (first | rw [hb53] | (conv => arg 7; rw [hb53]) | (conv => arg 9; rw [hb53]))
                · refine st1 ?_
                  (first | rw [hb53] | (conv => arg 7; rw [hb53]) | (conv => arg 9; rw [hb53]))
                  refine st1 ?_
                  obtain ⟨_, h, hF⟩ := e_bind hF
                  (first | refine o_ia (enc := (eS eTBounds)) (s := 1) h (fun _ => rfl) (by decide) ?_ | refine o_iaT (enc := (eS eTBounds)) (s := 1) h (fun _ => rfl) (by decide) ?_)
                  intro _
                  refine st1 ?_
                  obtain ⟨_, h, hF⟩ := e_bind hF
                  (first | refine g_call h lv1 ?_ | refine g_callT h lv1 ?_)
                  (conv => arg 1; whnf)
                  refine st1 ?_
                  rcases e_bif hF with ⟨hb54, hF⟩ | ⟨hb54, hF⟩ <;> (first | rw [hb54] | (conv => arg 7; rw [hb54]) | (conv => arg 9; rw [hb54]))
                  · refine st1 ?_
                    rcases e_bif hF with ⟨hb55, hF⟩ | ⟨hb55, hF⟩ <;> (first | rw [hb55] | (conv => arg 7; rw [hb55]) | (conv => arg 9; rw [hb55]))
                    · refine st1 ?_
                      rw [fl_thalweglaw01_RiverDepths_27, eg_thalweglaw01_RiverDepths_27, ag_thalweglaw01_RiverDepths_27]
                      (conv => arg 1; whnf)
                      refine st1 ?_
                      rcases e_bif hF with ⟨hb56, hF⟩ | ⟨hb56, hF⟩ <;> (first | rw [hb56] | (conv => arg 7; rw [hb56]) | (conv => arg 9; rw [hb56]))
                      · refine st1 ?_
                        obtain ⟨_, h, hF⟩ := e_bind hF
                        (first | refine g_call h lv1 ?_ | refine g_callT h lv1 ?_)
                        (conv => arg 1; whnf)
                        refine st1 ?_
                        have hq : some _ = some _ := hF
                        cases hq
                        exact en1
                      · refine st1 ?_
                        have hq : some _ = some _ := hF
                        cases hq
                        exact en1
                    · refine st1 ?_
                      have hq : some _ = some _ := hF
                      cases hq
                      exact en1
                  · refine st1 ?_
                    (first | rw [(eqT_ne hb53)] | (conv => arg 7; rw [(eqT_ne hb53)]) | (conv => arg 9; rw [(eqT_ne hb53)]))
                    refine st1 ?_
                    rcases e_bif hF with ⟨hb57, hF⟩ | ⟨hb57, hF⟩ <;> (first | rw [hb57] | (conv => arg 7; rw [hb57]) | (conv => arg 9; rw [hb57]))
                    · refine st1 ?_
                      obtain ⟨_, h, hF⟩ := e_bind hF
                      (first | refine g_call h lv1 ?_ | refine g_callT h lv1 ?_)
                      (conv => arg 1; whnf)
                      refine st1 ?_
                      rw [fl_thalweglaw01_RiverDepths_27, eg_thalweglaw01_RiverDepths_27, ag_thalweglaw01_RiverDepths_27]
                      (conv => arg 1; whnf)
                      refine st1 ?_
                      rcases e_bif hF with ⟨hb58, hF⟩ | ⟨hb58, hF⟩ <;> (first | rw [hb58] | (conv => arg 7; rw [hb58]) | (conv => arg 9; rw [hb58]))
                      · refine st1 ?_
                        obtain ⟨_, h, hF⟩ := e_bind hF
                        (first | refine g_call h lv1 ?_ | refine g_callT h lv1 ?_)
                        (conv => arg 1; whnf)
                        refine st1 ?_
                        have hq : some _ = some _ := hF
                        cases hq
                        exact en1
                      · refine st1 ?_
                        have hq : some _ = some _ := hF
                        cases hq
                        exact en1
                    · refine st1 ?_
                      have hq : some _ = some _ := hF
                      cases hq
                      exact en1
                · refine st1 ?_
                  (first | rw [hb53] | (conv => arg 7; rw [hb53]) | (conv => arg 9; rw [hb53]))
                  refine st1 ?_
                  (first | rw [(eqF_ne hb53)] | (conv => arg 7; rw [(eqF_ne hb53)]) | (conv => arg 9; rw [(eqF_ne hb53)]))
                  refine st1 ?_
                  rcases e_bif hF with ⟨hb59, hF⟩ | ⟨hb59, hF⟩ <;> (first | rw [hb59] | (conv => arg 7; rw [hb59]) | (conv => arg 9; rw [hb59]))
                  · refine st1 ?_
                    rw [fl_thalweglaw01_RiverDepths_27, eg_thalweglaw01_RiverDepths_27, ag_thalweglaw01_RiverDepths_27]
                    (conv => arg 1; whnf)
                    refine st1 ?_
                    rcases e_bif hF with ⟨hb60, hF⟩ | ⟨hb60, hF⟩ <;> (first | rw [hb60] | (conv => arg 7; rw [hb60]) | (conv => arg 9; rw [hb60]))
                    · refine st1 ?_
                      obtain ⟨_, h, hF⟩ := e_bind hF
                      (first | refine g_call h lv1 ?_ | refine g_callT h lv1 ?_)
                      (conv => arg 1; whnf)
                      refine st1 ?_
                      have hq : some _ = some _ := hF
                      cases hq
                      exact en1
                    · refine st1 ?_
                      have hq : some _ = some _ := hF
                      cases hq
                      exact en1
                  · refine st1 ?_
                    have hq : some _ = some _ := hF
                    cases hq
                    exact en1
end Go.Ev
