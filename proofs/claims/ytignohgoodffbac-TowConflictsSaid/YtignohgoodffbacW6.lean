/- A part of the proof of TowConflicts. -/
import Derived.Test.YtignohgoodffbacW5
/- The functions do what is said. -/
set_option linter.unusedVariables false
set_option linter.unusedSimpArgs false
namespace Go.Ev
open Go.Proofs
set_option maxHeartbeats 8000000
set_option maxRecDepth 100000
@[reducible] noncomputable def c_tow_mayMeet : Con := conF F_tow_mayMeet (fun x => match x with | (a0, a1) => [(V.agg (eTtow_stay a0)), (V.agg (eTtow_stay a1))]) (fun r => (V.v (.bool (r))))
theorem h_tow_mayMeet : Has Try.prog 20 c_tow_mayMeet := by
  refine hasF ctx_nil mix Try.func20 rfl (by kernel_rfl) ?_
  rintro ⟨a0, a1⟩ r hF
  refine ⟨of_decide_eq_true rfl, ?_⟩
  refine st1 ?_
  rcases e_bif hF with ⟨hb1, hF⟩ | ⟨hb1, hF⟩ <;> (first | rw [hb1] | (conv => arg 7; rw [hb1]) | (conv => arg 9; rw [hb1]))
  · refine st1 ?_
    rcases e_bif hF with ⟨hb2, hF⟩ | ⟨hb2, hF⟩ <;> (first | rw [hb2] | (conv => arg 7; rw [hb2]) | (conv => arg 9; rw [hb2]))
    · refine st1 ?_
      rcases e_bif hF with ⟨hb3, hF⟩ | ⟨hb3, hF⟩ <;> (first | rw [hb3] | (conv => arg 7; rw [hb3]) | (conv => arg 9; rw [hb3]))
      · refine st1 ?_
        have hq : some _ = some _ := hF
        cases hq
        exact en1
      · refine st1 ?_
        have hq : some _ = some _ := hF
        cases hq
        exact en1
    · refine st1 ?_
      have hq : some _ = some _ := hF
      cases hq
      exact en1
  · refine st1 ?_
    have hq : some _ = some _ := hF
    cases hq
    exact en1


@[reducible] noncomputable def c_tow_Conflicts : Con := conF F_tow_Conflicts (fun x => match x with | (a0, a1) => [(V.sl (recs eTVoyage (a0)) (a0).length), (V.sl (recs eTNarrow (a1)) (a1).length)]) (fun r => V.tup [(V.sl (recs eTMeeting (r.1)) (r.1).length), (V.v (.int .i64 (r.2)))])
theorem h_tow_Conflicts : Has Try.prog 8 c_tow_Conflicts := by
  refine hasIF (G := xg [(19, Try.f19), (39, Try.f39)]) (ctx_cons h_tow_mayMeet (ctx_cons h_tow_gather ctx_nil)) (gok_cons Try.func19 rfl rfl (gok_cons Try.func39 rfl rfl (gok_nil))) mix 12 Try.func8 rfl (by kernel_rfl) ?_
  rintro ⟨a0, a1⟩ r hF
  refine ⟨rfl, ?_⟩
  refine sw1 ?_
  obtain ⟨_, h, hF⟩ := e_bind hF
  (first | refine g_call h lv1 ?_ | refine g_callT h lv1 ?_)
  (conv => arg 1; whnf)
  refine sw1 ?_
  rcases e_bif hF with ⟨hb1, hF⟩ | ⟨hb1, hF⟩ <;> (first | rw [hb1] | (conv => arg 7; rw [hb1]) | (conv => arg 9; rw [hb1]))
  · refine sw1 ?_
    have hq : some _ = some _ := hF
    cases hq
    exact en1
  · refine sw1 ?_
    refine ws_loopF (e_assoc hF) () (idr 0 ++ [(8, _), (13, _)]) [] ⟨sT, sW, by rfl, by rfl, by rfl, by rfl⟩ ?_
    · rintro n ⟨_, _⟩ _ x hx1 hF
      (conv => arg 9; arg 1; whnf); (conv => arg 9; arg 3; whnf); (conv => arg 9; arg 4; whnf)
      refine sw1 ?_
      rcases e_bif hF with ⟨hb375, hF⟩ | ⟨hb375, hF⟩ <;> (first | rw [hb375] | (conv => arg 7; rw [hb375]) | (conv => arg 9; rw [hb375]))
      · refine sw1 ?_
        refine ws_loopF (e_assoc hF) () (idr 0 ++ [(8, _), (13, _), (14, _), (17, _), (21, _)]) [] ⟨sT, sW, by rfl, by rfl, by rfl, by rfl⟩ ?_
        · rintro n ⟨_, _⟩ _ x hx2 hF
          (conv => arg 9; arg 1; whnf); (conv => arg 9; arg 3; whnf); (conv => arg 9; arg 4; whnf)
          refine sw1 ?_
          rcases e_bif hF with ⟨hb450, hF⟩ | ⟨hb450, hF⟩ <;> (first | rw [hb450] | (conv => arg 7; rw [hb450]) | (conv => arg 9; rw [hb450]))
          · refine sw1 ?_
            obtain ⟨_, h, hF⟩ := e_bind hF
            (first | refine o_ia (enc := eTVoyage) (s := 5) h (fun _ => rfl) (by decide) ?_ | refine o_iaT (enc := eTVoyage) (s := 5) h (fun _ => rfl) (by decide) ?_)
            intro _
            refine sw1 ?_
            obtain ⟨_, h, hF⟩ := e_bind hF
            (first | refine o_ia (enc := eTVoyage) (s := 5) h (fun _ => rfl) (by decide) ?_ | refine o_iaT (enc := eTVoyage) (s := 5) h (fun _ => rfl) (by decide) ?_)
            intro _
            refine sw1 ?_
            refine ws_loopF (e_assoc hF) () (idr 37 ++ [(37, _)]) [35, 36] ⟨sT, sW, by rfl, by rfl, by rfl, by rfl⟩ ?_
            · rintro n ⟨_, _⟩ _ x hx3 hF
              (conv => arg 9; arg 1; whnf); (conv => arg 9; arg 3; whnf); (conv => arg 9; arg 4; whnf)
              refine sw1 ?_
              rcases e_bif hF with ⟨hb478, hF⟩ | ⟨hb478, hF⟩ <;> (first | rw [hb478] | (conv => arg 7; rw [hb478]) | (conv => arg 9; rw [hb478]))
              · refine sw1 ?_
                obtain ⟨_, h, hF⟩ := e_bind hF
                (first | refine o_ia (enc := eTNarrow) (s := 4) h (fun _ => rfl) (by decide) ?_ | refine o_iaT (enc := eTNarrow) (s := 4) h (fun _ => rfl) (by decide) ?_)
                intro _
                refine sw1 ?_
                rcases e_bif hF with ⟨hb479, hF⟩ | ⟨hb479, hF⟩ <;> (first | rw [hb479] | (conv => arg 7; rw [hb479]) | (conv => arg 9; rw [hb479]))
                · refine sw1 ?_
                  obtain ⟨_, h, hF⟩ := e_bind hF
                  (first | refine o_ia (enc := (eS eTtow_stay)) (s := 1) h (fun _ => rfl) (by decide) ?_ | refine o_iaT (enc := (eS eTtow_stay)) (s := 1) h (fun _ => rfl) (by decide) ?_)
                  intro _
                  refine sw1 ?_
                  obtain ⟨_, h, hF⟩ := e_bind hF
                  (first | refine o_ia (enc := eTtow_stay) (s := 5) h (fun _ => rfl) (by decide) ?_ | refine o_iaT (enc := eTtow_stay) (s := 5) h (fun _ => rfl) (by decide) ?_)
                  intro _
                  refine sw1 ?_
                  rcases e_bif hF with ⟨hb480, hF⟩ | ⟨hb480, hF⟩ <;> (first | rw [hb480] | (conv => arg 7; rw [hb480]) | (conv => arg 9; rw [hb480]))
                  · refine sw1 ?_
                    obtain ⟨_, h, hF⟩ := e_bind hF
                    (first | refine o_ia (enc := (eS eTtow_stay)) (s := 1) h (fun _ => rfl) (by decide) ?_ | refine o_iaT (enc := (eS eTtow_stay)) (s := 1) h (fun _ => rfl) (by decide) ?_)
                    intro _
                    refine sw1 ?_
                    obtain ⟨_, h, hF⟩ := e_bind hF
                    (first | refine o_ia (enc := eTtow_stay) (s := 5) h (fun _ => rfl) (by decide) ?_ | refine o_iaT (enc := eTtow_stay) (s := 5) h (fun _ => rfl) (by decide) ?_)
                    intro _
                    refine sw1 ?_
                    rcases e_bif hF with ⟨hb481, hF⟩ | ⟨hb481, hF⟩ <;> (first | rw [hb481] | (conv => arg 7; rw [hb481]) | (conv => arg 9; rw [hb481]))
                    · refine sw1 ?_
                      obtain ⟨_, h, hF⟩ := e_bind hF
                      (first | refine o_ia (enc := (eS eTtow_stay)) (s := 1) h (fun _ => rfl) (by decide) ?_ | refine o_iaT (enc := (eS eTtow_stay)) (s := 1) h (fun _ => rfl) (by decide) ?_)
                      intro _
                      refine sw1 ?_
                      obtain ⟨_, h, hF⟩ := e_bind hF
                      (first | refine o_ia (enc := eTtow_stay) (s := 5) h (fun _ => rfl) (by decide) ?_ | refine o_iaT (enc := eTtow_stay) (s := 5) h (fun _ => rfl) (by decide) ?_)
                      intro _
                      refine sw1 ?_
                      obtain ⟨_, h, hF⟩ := e_bind hF
                      (first | refine o_ia (enc := (eS eTtow_stay)) (s := 1) h (fun _ => rfl) (by decide) ?_ | refine o_iaT (enc := (eS eTtow_stay)) (s := 1) h (fun _ => rfl) (by decide) ?_)
                      intro _
                      refine sw1 ?_
                      obtain ⟨_, h, hF⟩ := e_bind hF
                      (first | refine o_ia (enc := eTtow_stay) (s := 5) h (fun _ => rfl) (by decide) ?_ | refine o_iaT (enc := eTtow_stay) (s := 5) h (fun _ => rfl) (by decide) ?_)
                      intro _
                      refine sw1 ?_
                      obtain ⟨_, h, hF⟩ := e_bind hF
                      (first | refine g_call h lv1 ?_ | refine g_callT h lv1 ?_)
                      (conv => arg 1; whnf)
                      refine sw1 ?_
                      rcases e_bif hF with ⟨hb482, hF⟩ | ⟨hb482, hF⟩ <;> (first | rw [hb482] | (conv => arg 7; rw [hb482]) | (conv => arg 9; rw [hb482]))
                      · refine sw1 ?_
                        obtain ⟨_, h, hF⟩ := e_bind hF
                        (first | refine o_app (enc := eTMeeting) (s := 3) h (fun _ => rfl) ?_ | refine o_appT (enc := eTMeeting) (s := 3) h (fun _ => rfl) ?_ | (have h := app_val h; subst h))
                        refine sw1 ?_
                        exact kw_loopF (e_some hF) hx3 () (idr 37 ++ [(37, _)]) ⟨sT, sW, by rfl, by rfl, by rfl, by rfl⟩
                      · refine sw1 ?_
                        exact kw_loopF (e_some hF) hx3 () (idr 37 ++ [(37, _)]) ⟨sT, sW, by rfl, by rfl, by rfl, by rfl⟩
                    · refine sw1 ?_
                      exact kw_loopF (e_some hF) hx3 () (idr 37 ++ [(37, _)]) ⟨sT, sW, by rfl, by rfl, by rfl, by rfl⟩
                  · refine sw1 ?_
                    exact kw_loopF (e_some hF) hx3 () (idr 37 ++ [(37, _)]) ⟨sT, sW, by rfl, by rfl, by rfl, by rfl⟩
                · refine sw1 ?_
                  rcases e_bif hF with ⟨hb483, hF⟩ | ⟨hb483, hF⟩ <;> (first | rw [hb483] | (conv => arg 7; rw [hb483]) | (conv => arg 9; rw [hb483]))
                  · refine sw1 ?_
                    obtain ⟨_, h, hF⟩ := e_bind hF
                    (first | refine o_ia (enc := (eS eTtow_stay)) (s := 1) h (fun _ => rfl) (by decide) ?_ | refine o_iaT (enc := (eS eTtow_stay)) (s := 1) h (fun _ => rfl) (by decide) ?_)
                    intro _
                    refine sw1 ?_
                    obtain ⟨_, h, hF⟩ := e_bind hF
                    (first | refine o_ia (enc := eTtow_stay) (s := 5) h (fun _ => rfl) (by decide) ?_ | refine o_iaT (enc := eTtow_stay) (s := 5) h (fun _ => rfl) (by decide) ?_)
                    intro _
                    refine sw1 ?_
                    rcases e_bif hF with ⟨hb484, hF⟩ | ⟨hb484, hF⟩ <;> (first | rw [hb484] | (conv => arg 7; rw [hb484]) | (conv => arg 9; rw [hb484]))
                    · refine sw1 ?_
                      obtain ⟨_, h, hF⟩ := e_bind hF
                      (first | refine o_ia (enc := (eS eTtow_stay)) (s := 1) h (fun _ => rfl) (by decide) ?_ | refine o_iaT (enc := (eS eTtow_stay)) (s := 1) h (fun _ => rfl) (by decide) ?_)
                      intro _
                      refine sw1 ?_
                      obtain ⟨_, h, hF⟩ := e_bind hF
                      (first | refine o_ia (enc := eTtow_stay) (s := 5) h (fun _ => rfl) (by decide) ?_ | refine o_iaT (enc := eTtow_stay) (s := 5) h (fun _ => rfl) (by decide) ?_)
                      intro _
                      refine sw1 ?_
                      rcases e_bif hF with ⟨hb485, hF⟩ | ⟨hb485, hF⟩ <;> (first | rw [hb485] | (conv => arg 7; rw [hb485]) | (conv => arg 9; rw [hb485]))
                      · refine sw1 ?_
                        obtain ⟨_, h, hF⟩ := e_bind hF
                        (first | refine o_ia (enc := (eS eTtow_stay)) (s := 1) h (fun _ => rfl) (by decide) ?_ | refine o_iaT (enc := (eS eTtow_stay)) (s := 1) h (fun _ => rfl) (by decide) ?_)
                        intro _
                        refine sw1 ?_
                        obtain ⟨_, h, hF⟩ := e_bind hF
                        (first | refine o_ia (enc := eTtow_stay) (s := 5) h (fun _ => rfl) (by decide) ?_ | refine o_iaT (enc := eTtow_stay) (s := 5) h (fun _ => rfl) (by decide) ?_)
                        intro _
                        refine sw1 ?_
                        obtain ⟨_, h, hF⟩ := e_bind hF
                        (first | refine o_ia (enc := (eS eTtow_stay)) (s := 1) h (fun _ => rfl) (by decide) ?_ | refine o_iaT (enc := (eS eTtow_stay)) (s := 1) h (fun _ => rfl) (by decide) ?_)
                        intro _
                        refine sw1 ?_
                        obtain ⟨_, h, hF⟩ := e_bind hF
                        (first | refine o_ia (enc := eTtow_stay) (s := 5) h (fun _ => rfl) (by decide) ?_ | refine o_iaT (enc := eTtow_stay) (s := 5) h (fun _ => rfl) (by decide) ?_)
                        intro _
                        refine sw1 ?_
                        obtain ⟨_, h, hF⟩ := e_bind hF
                        (first | refine g_call h lv1 ?_ | refine g_callT h lv1 ?_)
                        (conv => arg 1; whnf)
                        refine sw1 ?_
                        rcases e_bif hF with ⟨hb486, hF⟩ | ⟨hb486, hF⟩ <;> (first | rw [hb486] | (conv => arg 7; rw [hb486]) | (conv => arg 9; rw [hb486]))
                        · refine sw1 ?_
                          obtain ⟨_, h, hF⟩ := e_bind hF
                          (first | refine o_app (enc := eTMeeting) (s := 3) h (fun _ => rfl) ?_ | refine o_appT (enc := eTMeeting) (s := 3) h (fun _ => rfl) ?_ | (have h := app_val h; subst h))
                          refine sw1 ?_
                          exact kw_loopF (e_some hF) hx3 () (idr 37 ++ [(37, _)]) ⟨sT, sW, by rfl, by rfl, by rfl, by rfl⟩
                        · refine sw1 ?_
                          exact kw_loopF (e_some hF) hx3 () (idr 37 ++ [(37, _)]) ⟨sT, sW, by rfl, by rfl, by rfl, by rfl⟩
                      · refine sw1 ?_
                        exact kw_loopF (e_some hF) hx3 () (idr 37 ++ [(37, _)]) ⟨sT, sW, by rfl, by rfl, by rfl, by rfl⟩
                    · refine sw1 ?_
                      exact kw_loopF (e_some hF) hx3 () (idr 37 ++ [(37, _)]) ⟨sT, sW, by rfl, by rfl, by rfl, by rfl⟩
                  · refine sw1 ?_
                    exact kw_loopF (e_some hF) hx3 () (idr 37 ++ [(37, _)]) ⟨sT, sW, by rfl, by rfl, by rfl, by rfl⟩
              · refine sw1 ?_
                (first | have hF := e_next (e_some hF) | have hF := e_some hF)
                refine kw_loopX 39 (of_decide_eq_true rfl) ?_
                refine sw1 ?_
                exact kw_loopF (e_some hF) hx2 () (idr 0 ++ [(8, _), (13, _), (14, _), (17, _), (21, _)]) ⟨sT, sW, by rfl, by rfl, by rfl, by rfl⟩
          · refine sw1 ?_
            (first | have hF := e_next (e_some hF) | have hF := e_some hF)
            refine kw_loopX 26 (of_decide_eq_true rfl) ?_
            refine sw1 ?_
            exact kw_loopF (e_some hF) hx1 () (idr 0 ++ [(8, _), (13, _), (14, _)]) ⟨sT, sW, by rfl, by rfl, by rfl, by rfl⟩
      · refine sw1 ?_
        (first | have hF := e_next (e_some hF) | have hF := e_some hF)
        refine kw_loopX 16 (of_decide_eq_true rfl) ?_
        refine sw1 ?_
        have hq : some _ = some _ := hF
        cases hq
        exact en1


end Go.Ev
