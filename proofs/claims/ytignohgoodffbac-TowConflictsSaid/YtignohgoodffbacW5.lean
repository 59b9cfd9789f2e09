/- A part of the proof of TowConflicts. -/
import Derived.Test.YtignohgoodffbacW4
/- The functions do what is said. -/
set_option linter.unusedVariables false
set_option linter.unusedSimpArgs false
namespace Go.Ev
open Go.Proofs
set_option maxHeartbeats 8000000
set_option maxRecDepth 100000
@[reducible] noncomputable def c_tow_gather : Con := conF F_tow_gather (fun x => match x with | (a0, a1) => [(V.sl (recs eTVoyage (a0)) (a0).length), (V.sl (recs eTNarrow (a1)) (a1).length)]) (fun r => V.tup [(V.agg (eTtow_fleet r.1)), (V.v (.int .i64 (r.2)))])
theorem h_tow_gather : Has Try.prog 18 c_tow_gather := by
  refine hasF (ctx_cons (h_numbers_Every_Narrow (ctx_cons h_tow_validNarrow ctx_nil)) (ctx_cons (h_numbers_Every_Voyage (ctx_cons h_tow_gather_1 ctx_nil)) (ctx_cons h_tow_visit ctx_nil))) mix Try.func18 rfl (by kernel_rfl) ?_
  rintro ⟨a0, a1⟩ r hF
  refine ⟨of_decide_eq_true rfl, ?_⟩
  refine st1 ?_
  rcases e_bif hF with ⟨hb1, hF⟩ | ⟨hb1, hF⟩ <;> (first | rw [hb1] | (conv => arg 7; rw [hb1]) | (conv => arg 9; rw [hb1]))
  · refine st1 ?_
    have hq : some _ = some _ := hF
    cases hq
    exact en1
  · refine st1 ?_
    rcases e_bif hF with ⟨hb2, hF⟩ | ⟨hb2, hF⟩ <;> (first | rw [hb2] | (conv => arg 7; rw [hb2]) | (conv => arg 9; rw [hb2]))
    · refine st1 ?_
      have hq : some _ = some _ := hF
      cases hq
      exact en1
    · refine st1 ?_
      obtain ⟨_, h, hF⟩ := e_bind hF
      (first | refine g_hcall h lv1 (callable_conF rfl rfl (fun _ => rfl)) ?_ | refine g_hcallT h lv1 (callable_conF rfl rfl (fun _ => rfl)) ?_)
      (conv => arg 1; whnf)
      refine st1 ?_
      rcases e_bif hF with ⟨hb3, hF⟩ | ⟨hb3, hF⟩ <;> (first | rw [hb3] | (conv => arg 7; rw [hb3]) | (conv => arg 9; rw [hb3]))
      · refine st1 ?_
        have hq : some _ = some _ := hF
        cases hq
        exact en1
      · refine st1 ?_
        obtain ⟨_, h, hF⟩ := e_bind hF
        (first | refine g_hcall h lv1 (callable_conF rfl rfl (fun _ => rfl)) ?_ | refine g_hcallT h lv1 (callable_conF rfl rfl (fun _ => rfl)) ?_)
        (conv => arg 1; whnf)
        refine st1 ?_
        rcases e_bif hF with ⟨hb4, hF⟩ | ⟨hb4, hF⟩ <;> (first | rw [hb4] | (conv => arg 7; rw [hb4]) | (conv => arg 9; rw [hb4]))
        · refine st1 ?_
          have hq : some _ = some _ := hF
          cases hq
          exact en1
        · refine st1 ?_
          obtain ⟨_, h, hF⟩ := e_bind hF
          (first | refine o_mkn (enc := eTtow_stay) h ?_ | refine o_mknT (enc := eTtow_stay) h ?_)
          refine st1 ?_
          (first | refine st_loopF (e_assoc hF) () [(0, _), (24, _), (26, _)] ⟨sT, sS, by rfl, by rfl⟩ ?_ | ((conv => arg 7; try simp only [List.size_toArray, List.length_cons, List.length_nil, Nat.reduceAdd, Nat.zero_add]); (conv => arg 8; try simp only [List.size_toArray, List.length_cons, List.length_nil, Nat.reduceAdd, Nat.zero_add]); (conv => arg 9; try simp only [List.size_toArray, List.length_cons, List.length_nil, Nat.reduceAdd, Nat.zero_add]); refine st_loopF (e_assoc hF) () [(0, 0), (24, 24), (26, 26)] ⟨sT, sS, by rfl, by rfl⟩ ?_))
          · as_aux_lemma =>
            rintro n ⟨_, _⟩ _ x hx1 hF
            (conv => arg 7; whnf); (conv => arg 8; whnf); (conv => arg 9; whnf)
            refine st1 ?_
            rcases e_bif hF with ⟨hb19, hF⟩ | ⟨hb19, hF⟩ <;> (first | rw [hb19] | (conv => arg 7; rw [hb19]) | (conv => arg 9; rw [hb19]))
            · refine st1 ?_
              (first | refine st_loopF (e_assoc hF) () [(0, _), (24, _), (26, _)] ⟨sT, sS, by rfl, by rfl⟩ ?_ | ((conv => arg 7; try simp only [List.size_toArray, List.length_cons, List.length_nil, Nat.reduceAdd, Nat.zero_add]); (conv => arg 8; try simp only [List.size_toArray, List.length_cons, List.length_nil, Nat.reduceAdd, Nat.zero_add]); (conv => arg 9; try simp only [List.size_toArray, List.length_cons, List.length_nil, Nat.reduceAdd, Nat.zero_add]); refine st_loopF (e_assoc hF) () [(0, 0), (24, 24), (26, 26)] ⟨sT, sS, by rfl, by rfl⟩ ?_))
              · as_aux_lemma =>
                rintro n ⟨_, _⟩ _ x hx2 hF
                (conv => arg 7; whnf); (conv => arg 8; whnf); (conv => arg 9; whnf)
                refine st1 ?_
                rcases e_bif hF with ⟨hb24, hF⟩ | ⟨hb24, hF⟩ <;> (first | rw [hb24] | (conv => arg 7; rw [hb24]) | (conv => arg 9; rw [hb24]))
                · refine st1 ?_
                  obtain ⟨_, h, hF⟩ := e_bind hF
                  (first | refine o_ia (enc := eTNarrow) (s := 4) h (fun _ => rfl) (by decide) ?_ | refine o_iaT (enc := eTNarrow) (s := 4) h (fun _ => rfl) (by decide) ?_)
                  intro _
                  refine st1 ?_
                  obtain ⟨_, h, hF⟩ := e_bind hF
                  (first | refine o_ia (enc := eTVoyage) (s := 5) h (fun _ => rfl) (by decide) ?_ | refine o_iaT (enc := eTVoyage) (s := 5) h (fun _ => rfl) (by decide) ?_)
                  intro _
                  refine st1 ?_
                  obtain ⟨_, h, hF⟩ := e_bind hF
                  (first | refine g_call h lv1 ?_ | refine g_callT h lv1 ?_)
                  (conv => arg 1; whnf)
                  refine st1 ?_
                  rcases e_bif hF with ⟨hb25, hF⟩ | ⟨hb25, hF⟩ <;> (first | rw [hb25] | (conv => arg 7; rw [hb25]) | (conv => arg 9; rw [hb25]))
                  · refine st1 ?_
                    (first | have hF := e_next (e_some hF) | have hF := e_some hF)
                    (first | have hF := e_next (e_some hF) | have hF := e_some hF)
                    have hq : some _ = some _ := hF
                    cases hq
                    exact en1
                  · refine st1 ?_
                    obtain ⟨_, hi43, hF⟩ := e_bind hF
                    (first | refine go_req (oidx_ok hi43 (by decide)) ?_ | refine goT_req (oidx_ok hi43 (by decide)) ?_ | refine go_req (oidx_len hi43 (set_len (by assumption)) (by decide)) ?_ | refine goT_req (oidx_len hi43 (set_len (by assumption)) (by decide)) ?_)
                    (conv => arg 1; whnf)
                    refine st1 ?_
                    (first | refine o_tk (enc := eTtow_stay) hi43 List.not_mem_nil ?_ | refine o_tkT (enc := eTtow_stay) hi43 List.not_mem_nil ?_)
                    refine st1 ?_
                    obtain ⟨_, h, hF⟩ := e_bind hF
                    (first | refine o_app (enc := eTtow_stay) (s := 5) h (fun _ => rfl) ?_ | refine o_appT (enc := eTtow_stay) (s := 5) h (fun _ => rfl) ?_ | (have h := app_val h; subst h))
                    refine st1 ?_
                    obtain ⟨_, hi46, hF⟩ := e_bind hF
                    (first | refine go_req (oidx_ok hi46 (by decide)) ?_ | refine goT_req (oidx_ok hi46 (by decide)) ?_ | refine go_req (oidx_len hi46 (set_len (by assumption)) (by decide)) ?_ | refine goT_req (oidx_len hi46 (set_len (by assumption)) (by decide)) ?_)
                    (conv => arg 1; whnf)
                    refine st1 ?_
                    obtain ⟨_, h, hF⟩ := e_bind hF
                    (first | refine o_gv (enc := eTtow_stay) (hole1 := []) h (fun _ => rfl) (by decide) rfl (hole_drop [] []) (by decide) ?_ | refine o_gvT (enc := eTtow_stay) (hole1 := []) h (fun _ => rfl) (by decide) rfl (hole_drop [] []) (by decide) ?_)
                    refine st1 ?_
                    (first | exact k_loopF (e_some hF) hx2 () [(0, _), (24, _), (26, _)] ⟨sT, sS, by rfl, by rfl⟩ | exact k_loopF (e_some hF) hx2 () [(0, 0), (24, 24), (26, 26)] ⟨sT, sS, by rfl, by rfl⟩)
                · refine st1 ?_
                  (first | have hF := e_next (e_some hF) | have hF := e_some hF)
                  (first | exact k_loopF (e_some hF) hx1 () [(0, _), (24, _), (26, _)] ⟨sT, sS, by rfl, by rfl⟩ | exact k_loopF (e_some hF) hx1 () [(0, 0), (24, 24), (26, 26)] ⟨sT, sS, by rfl, by rfl⟩)
            · refine st1 ?_
              (first | have hF := e_next (e_some hF) | have hF := e_some hF)
              have hq : some _ = some _ := hF
              cases hq
              exact en1


end Go.Ev
