/- A part of the proof of HullLeast. -/
import Derived.Test.YtbmnmappihnjgabProg
import Derived.Test.YtbmnmappihnjgabW6
/- The functions do what is said. -/
set_option linter.unusedVariables false
set_option linter.unusedSimpArgs false
namespace Go.Ev
open Go.Proofs
set_option maxHeartbeats 8000000
set_option maxRecDepth 100000
theorem mix : Try.prog.follows .mixedOrders = true := by kernel_rfl
@[reducible] noncomputable def c_thalweglaw02_Small_hull : Con := conF F_thalweglaw02_Small_hull (fun x => match x with | (a0, a1) => [(V.agg (eTthalweglaw02_Small a0)), (V.v (.int .i64 (a1)))]) (fun r => (V.agg (eTHull r)))
theorem h_thalweglaw02_Small_hull : Has Try.prog 12 c_thalweglaw02_Small_hull := by
  refine hasF ctx_nil mix Try.func12 rfl (by kernel_rfl) ?_
  rintro ⟨a0, a1⟩ r hF
  refine ⟨of_decide_eq_true rfl, ?_⟩
  refine st1 ?_
  refine st_loopF (e_assoc hF) () [(0, _), (1, _), (8, _)] ⟨sT, sS, by rfl, by rfl⟩ ?_
  · rintro n ⟨_, _⟩ _ x hx1 hF
    (conv => arg 7; whnf); (conv => arg 8; whnf); (conv => arg 9; whnf)
    refine st1 ?_
    rcases e_bif hF with ⟨hb10, hF⟩ | ⟨hb10, hF⟩ <;> (first | rw [hb10] | (conv => arg 7; rw [hb10]) | (conv => arg 9; rw [hb10]))
    · refine st1 ?_
      rcases e_bif hF with ⟨hb11, hF⟩ | ⟨hb11, hF⟩ <;> (first | rw [hb11] | (conv => arg 7; rw [hb11]) | (conv => arg 9; rw [hb11]))
      · refine st1 ?_
        obtain ⟨_, h, hF⟩ := e_bind hF
        (first | refine o_ia (enc := eTanon111) (s := 5) h (fun _ => rfl) (by decide) ?_ | refine o_iaT (enc := eTanon111) (s := 5) h (fun _ => rfl) (by decide) ?_)
        intro _
        refine st1 ?_
        obtain ⟨_, h, hF⟩ := e_bind hF
        (first | refine o_app (enc := eTHullSection) (s := 5) h (fun _ => rfl) ?_ | refine o_appT (enc := eTHullSection) (s := 5) h (fun _ => rfl) ?_)
        refine st1 ?_
        exact k_loopF (e_some hF) hx1 () [(0, _), (1, _), (8, _), (9, _)] ⟨sT, sS, by rfl, by rfl⟩
      · refine st1 ?_
        obtain ⟨_, h, hF⟩ := e_bind hF
        (first | refine o_app (enc := eTHullSection) (s := 5) h (fun _ => rfl) ?_ | refine o_appT (enc := eTHullSection) (s := 5) h (fun _ => rfl) ?_)
        refine st1 ?_
        exact k_loopF (e_some hF) hx1 () [(0, _), (1, _), (8, _), (9, _)] ⟨sT, sS, by rfl, by rfl⟩
    · refine st1 ?_
      rcases e_bif hF with ⟨hb12, hF⟩ | ⟨hb12, hF⟩ <;> (first | rw [hb12] | (conv => arg 7; rw [hb12]) | (conv => arg 9; rw [hb12]))
      · refine st1 ?_
        rcases e_bif hF with ⟨hb13, hF⟩ | ⟨hb13, hF⟩ <;> (first | rw [hb13] | (conv => arg 7; rw [hb13]) | (conv => arg 9; rw [hb13]))
        · refine st1 ?_
          (first | rw [hb12] | (conv => arg 7; rw [hb12]) | (conv => arg 9; rw [hb12]))
          refine st1 ?_
          obtain ⟨_, h, hF⟩ := e_bind hF
          (first | refine o_ia (enc := eTanon111) (s := 5) h (fun _ => rfl) (by decide) ?_ | refine o_iaT (enc := eTanon111) (s := 5) h (fun _ => rfl) (by decide) ?_)
          intro _
          refine st1 ?_
          obtain ⟨_, h, hF⟩ := e_bind hF
          (first | refine o_app (enc := eTHullSection) (s := 5) h (fun _ => rfl) ?_ | refine o_appT (enc := eTHullSection) (s := 5) h (fun _ => rfl) ?_)
          refine st1 ?_
          exact k_loopF (e_some hF) hx1 () [(0, _), (1, _), (8, _), (9, _)] ⟨sT, sS, by rfl, by rfl⟩
        · refine st1 ?_
          have hF := e_some hF
          have hq : some _ = some _ := hF
          cases hq
          exact en1
      · refine st1 ?_
        have hF := e_some hF
        have hq : some _ = some _ := hF
        cases hq
        exact en1


@[reducible] noncomputable def c_thalweglaw02_Small_load : Con := conR F_thalweglaw02_Small_load (fun x => match x with | (a0, a1) => [(V.agg (eTthalweglaw02_Small a0)), (V.agg (eTHull a1))]) (fun r => (V.sl (recs (eI .i64) (r)) (r).length)) 3 1
theorem h_thalweglaw02_Small_load : Has Try.prog 13 c_thalweglaw02_Small_load := by
  refine hasFR ctx_nil mix Try.func13 rfl (by kernel_rfl) ?_
  rintro ⟨a0, a1⟩ r hF
  refine ⟨of_decide_eq_true rfl, ?_⟩
  refine st1 ?_
  refine st_loopF (e_assoc hF) () [(0, _), (1, _), (3, _)] ⟨sT, sS, by rfl, by rfl⟩ ?_
  · rintro n ⟨_, _⟩ _ x hx1 hF
    (conv => arg 7; whnf); (conv => arg 8; whnf); (conv => arg 9; whnf)
    refine st1 ?_
    rcases e_bif hF with ⟨hb11, hF⟩ | ⟨hb11, hF⟩ <;> (first | rw [hb11] | (conv => arg 7; rw [hb11]) | (conv => arg 9; rw [hb11]))
    · refine st1 ?_
      rcases e_bif hF with ⟨hb12, hF⟩ | ⟨hb12, hF⟩
      · skip
        (first | refine o_ib (eq_of_beq hb12) rfl ?_ | refine o_ibT (eq_of_beq hb12) rfl ?_ | refine o_ix (eq_of_beq hb12) rfl ?_ | refine o_ixT (eq_of_beq hb12) rfl ?_)
        (conv => arg 1; whnf)
        refine st1 ?_
        obtain ⟨_, h, hF⟩ := e_bind hF
        (first | refine o_ia (enc := eTHullSection) (s := 5) h (fun _ => rfl) (by decide) ?_ | refine o_iaT (enc := eTHullSection) (s := 5) h (fun _ => rfl) (by decide) ?_)
        intro _
        refine st1 ?_
        obtain ⟨_, h, hF⟩ := e_bind hF
        (first | refine o_ia (enc := eTHullHold) (s := 2) h (fun _ => rfl) (by decide) ?_ | refine o_iaT (enc := eTHullHold) (s := 2) h (fun _ => rfl) (by decide) ?_)
        intro _
        refine st1 ?_
        obtain ⟨_, h, hF⟩ := e_bind hF
        (first | refine go_req (nz_ne h) ?_ | refine goT_req (nz_ne h) ?_)
        (conv => arg 1; whnf)
        refine st1 ?_
        obtain ⟨_, h, hF⟩ := e_bind hF
        (first | refine o_app (enc := (eI .i64)) (s := 1) h (fun _ => rfl) ?_ | refine o_appT (enc := (eI .i64)) (s := 1) h (fun _ => rfl) ?_)
        refine st1 ?_
        exact k_loopF (e_some hF) hx1 () [(0, _), (1, _), (3, _)] ⟨sT, sS, by rfl, by rfl⟩
      · skip
        rcases e_bif hF with ⟨hb13, hF⟩ | ⟨hb13, hF⟩
        · skip
          (first | refine o_ib (eq_of_beq hb13) rfl ?_ | refine o_ibT (eq_of_beq hb13) rfl ?_ | refine o_ix (eq_of_beq hb13) rfl ?_ | refine o_ixT (eq_of_beq hb13) rfl ?_)
          (conv => arg 1; whnf)
          refine st1 ?_
          obtain ⟨_, h, hF⟩ := e_bind hF
          (first | refine o_ia (enc := eTHullSection) (s := 5) h (fun _ => rfl) (by decide) ?_ | refine o_iaT (enc := eTHullSection) (s := 5) h (fun _ => rfl) (by decide) ?_)
          intro _
          refine st1 ?_
          obtain ⟨_, h, hF⟩ := e_bind hF
          (first | refine o_ia (enc := eTHullHold) (s := 2) h (fun _ => rfl) (by decide) ?_ | refine o_iaT (enc := eTHullHold) (s := 2) h (fun _ => rfl) (by decide) ?_)
          intro _
          refine st1 ?_
          obtain ⟨_, h, hF⟩ := e_bind hF
          (first | refine go_req (nz_ne h) ?_ | refine goT_req (nz_ne h) ?_)
          (conv => arg 1; whnf)
          refine st1 ?_
          obtain ⟨_, h, hF⟩ := e_bind hF
          (first | refine o_app (enc := (eI .i64)) (s := 1) h (fun _ => rfl) ?_ | refine o_appT (enc := (eI .i64)) (s := 1) h (fun _ => rfl) ?_)
          refine st1 ?_
          exact k_loopF (e_some hF) hx1 () [(0, _), (1, _), (3, _)] ⟨sT, sS, by rfl, by rfl⟩
        · skip
          rcases e_bif hF with ⟨hb14, hF⟩ | ⟨hb14, hF⟩
          · skip
            (first | refine o_ib (eq_of_beq hb14) rfl ?_ | refine o_ibT (eq_of_beq hb14) rfl ?_ | refine o_ix (eq_of_beq hb14) rfl ?_ | refine o_ixT (eq_of_beq hb14) rfl ?_)
            (conv => arg 1; whnf)
            refine st1 ?_
            obtain ⟨_, h, hF⟩ := e_bind hF
            (first | refine o_ia (enc := eTHullSection) (s := 5) h (fun _ => rfl) (by decide) ?_ | refine o_iaT (enc := eTHullSection) (s := 5) h (fun _ => rfl) (by decide) ?_)
            intro _
            refine st1 ?_
            obtain ⟨_, h, hF⟩ := e_bind hF
            (first | refine o_ia (enc := eTHullHold) (s := 2) h (fun _ => rfl) (by decide) ?_ | refine o_iaT (enc := eTHullHold) (s := 2) h (fun _ => rfl) (by decide) ?_)
            intro _
            refine st1 ?_
            obtain ⟨_, h, hF⟩ := e_bind hF
            (first | refine go_req (nz_ne h) ?_ | refine goT_req (nz_ne h) ?_)
            (conv => arg 1; whnf)
            refine st1 ?_
            obtain ⟨_, h, hF⟩ := e_bind hF
            (first | refine o_app (enc := (eI .i64)) (s := 1) h (fun _ => rfl) ?_ | refine o_appT (enc := (eI .i64)) (s := 1) h (fun _ => rfl) ?_)
            refine st1 ?_
            exact k_loopF (e_some hF) hx1 () [(0, _), (1, _), (3, _)] ⟨sT, sS, by rfl, by rfl⟩
          · skip
            rcases e_bif hF with ⟨hb15, hF⟩ | ⟨hb15, hF⟩
            · skip
              (first | refine o_ib (eq_of_beq hb15) rfl ?_ | refine o_ibT (eq_of_beq hb15) rfl ?_ | refine o_ix (eq_of_beq hb15) rfl ?_ | refine o_ixT (eq_of_beq hb15) rfl ?_)
              (conv => arg 1; whnf)
              refine st1 ?_
              obtain ⟨_, h, hF⟩ := e_bind hF
              (first | refine o_ia (enc := eTHullSection) (s := 5) h (fun _ => rfl) (by decide) ?_ | refine o_iaT (enc := eTHullSection) (s := 5) h (fun _ => rfl) (by decide) ?_)
              intro _
              refine st1 ?_
              obtain ⟨_, h, hF⟩ := e_bind hF
              (first | refine o_ia (enc := eTHullHold) (s := 2) h (fun _ => rfl) (by decide) ?_ | refine o_iaT (enc := eTHullHold) (s := 2) h (fun _ => rfl) (by decide) ?_)
              intro _
              refine st1 ?_
              obtain ⟨_, h, hF⟩ := e_bind hF
              (first | refine go_req (nz_ne h) ?_ | refine goT_req (nz_ne h) ?_)
              (conv => arg 1; whnf)
              refine st1 ?_
              obtain ⟨_, h, hF⟩ := e_bind hF
              (first | refine o_app (enc := (eI .i64)) (s := 1) h (fun _ => rfl) ?_ | refine o_appT (enc := (eI .i64)) (s := 1) h (fun _ => rfl) ?_)
              refine st1 ?_
              exact k_loopF (e_some hF) hx1 () [(0, _), (1, _), (3, _)] ⟨sT, sS, by rfl, by rfl⟩
            · skip
              (first | cases hF | simp at hF)
    · refine st1 ?_
      have hF := e_some hF
      have hq : some _ = some _ := hF
      cases hq
      exact en2


@[reducible] noncomputable def c_thalweglaw02_Small_density : Con := conF F_thalweglaw02_Small_density (fun x => match x with | (a0) => [(V.agg (eTthalweglaw02_Small a0))]) (fun r => (V.agg (eTBounds r)))
theorem h_thalweglaw02_Small_density : Has Try.prog 14 c_thalweglaw02_Small_density := by
  refine hasF ctx_nil mix Try.func14 rfl (by kernel_rfl) ?_
  rintro a0 r hF
  refine ⟨of_decide_eq_true rfl, ?_⟩
  refine st1 ?_
  have hq : some _ = some _ := hF
  cases hq
  exact en1


@[reducible] noncomputable def c_numbers_Every_int (C : FuncId → Option Con) : Con := conK F_numbers_Every_int (fun x => match x with | (a0, a1, g, caps) => [(V.sl (recs (eI .i64) (a0)) (a0).length), (V.fn g caps)]) (fun x => match x with | (a0, a1, g, caps) => Callable (ext C []) g caps (fun x => match x with | (q0) => [(V.v (.int .i64 (q0)))]) (fun r => (V.v (.bool (r)))) a1) (fun r => (V.v (.bool (r))))
theorem h_numbers_Every_int {C : FuncId → Option Con} (hC : CtxOK Try.prog C) : Has Try.prog 61 (c_numbers_Every_int C) := by
  refine hasK (ext_nil hC) mix Try.func61 rfl (by kernel_rfl) ?_
  rintro ⟨a0, a1, g, caps⟩ r hcl hF
  obtain ⟨hcaps, c, hc, hce, hcf, hcall⟩ := id hcl
  refine ⟨of_decide_eq_true rfl, ?_⟩
  refine st1 ?_
  refine st_loopF (e_assoc hF) () [] ⟨sT, sS, by rfl, by rfl⟩ ?_
  · rintro n _ _ x hx1 hF
    (conv => arg 7; whnf); (conv => arg 8; whnf); (conv => arg 9; whnf)
    refine st1 ?_
    rcases e_bif hF with ⟨hb5, hF⟩ | ⟨hb5, hF⟩ <;> (first | rw [hb5] | (conv => arg 7; rw [hb5]) | (conv => arg 9; rw [hb5]))
    · refine st1 ?_
      obtain ⟨_, h, hF⟩ := e_bind hF
      (first | refine o_ia (enc := (eI .i64)) (s := 1) h (fun _ => rfl) (by decide) ?_ | refine o_iaT (enc := (eI .i64)) (s := 1) h (fun _ => rfl) (by decide) ?_)
      intro _
      refine st1 ?_
      obtain ⟨_, h, hF⟩ := e_bind hF
      rw [hc]
      (conv => arg 1; whnf)
      rw [hce, hcf]
      (conv => arg 1; whnf)
      (first | refine go_map hcaps rfl ?_ | refine goT_map hcaps rfl ?_)
      (conv => arg 1; whnf)
      obtain ⟨z, hz1, hz2, hz3⟩ := hcall _ _ h
      (first | refine go_exi z ⟨levs_eq hz1.symm, hz2⟩ ?_ | refine goT_exi z ⟨levs_eq hz1.symm, hz2⟩ ?_)
      rw [hz3]
      (conv => arg 1; whnf)
      refine st1 ?_
      rcases e_bif hF with ⟨hb6, hF⟩ | ⟨hb6, hF⟩ <;> (first | rw [hb6] | (conv => arg 7; rw [hb6]) | (conv => arg 9; rw [hb6]))
      · refine st1 ?_
        have hF := e_some hF
        have hq : some _ = some _ := hF
        cases hq
        exact en1
      · refine st1 ?_
        exact k_loopF (e_some hF) hx1 () [] ⟨sT, sS, by rfl, by rfl⟩
    · refine st1 ?_
      have hF := e_some hF
      have hq : some _ = some _ := hF
      cases hq
      exact en1


@[reducible] noncomputable def c_numbers_Within_1 : Con := conF F_numbers_Within_1 (fun x => match x with | (a0, c0, c1) => [(V.v (.int .i64 (a0))), (V.fptr [(V.v (.int .i64 (c0)))]), (V.fptr [(V.v (.int .i64 (c1)))])]) (fun r => (V.v (.bool (r))))
theorem h_numbers_Within_1 : Has Try.prog 62 c_numbers_Within_1 := by
  refine hasF ctx_nil mix Try.func62 rfl (by kernel_rfl) ?_
  rintro ⟨a0, c0, c1⟩ r hF
  refine ⟨of_decide_eq_true rfl, ?_⟩
  refine st1 ?_
  rcases e_bif hF with ⟨hb1, hF⟩ | ⟨hb1, hF⟩ <;> (first | rw [hb1] | (conv => arg 7; rw [hb1]) | (conv => arg 9; rw [hb1]))
  · refine st1 ?_
    have hq : some _ = some _ := hF
    cases hq
    exact en1
  · refine st1 ?_
    have hq : some _ = some _ := hF
    cases hq
    exact en1


@[reducible] noncomputable def c_numbers_Within : Con := conF F_numbers_Within (fun x => match x with | (a0, a1, a2) => [(V.v (.int .i64 (a0))), (V.v (.int .i64 (a1))), (V.sl (recs (eI .i64) (a2)) (a2).length)]) (fun r => (V.v (.bool (r))))
theorem h_numbers_Within : Has Try.prog 35 c_numbers_Within := by
  refine hasF (ctx_cons (h_numbers_Every_int (ctx_cons h_numbers_Within_1 ctx_nil)) ctx_nil) mix Try.func35 rfl (by kernel_rfl) ?_
  rintro ⟨a0, a1, a2⟩ r hF
  refine ⟨of_decide_eq_true rfl, ?_⟩
  refine st1 ?_
  obtain ⟨_, h, hF⟩ := e_bind hF
  (first | refine g_hcall h lv1 (callable_conF rfl rfl (fun _ => rfl)) ?_ | refine g_hcallT h lv1 (callable_conF rfl rfl (fun _ => rfl)) ?_)
  (conv => arg 1; whnf)
  refine st1 ?_
  have hq : some _ = some _ := hF
  cases hq
  exact en1


@[reducible] noncomputable def c_hull_length : Con := conF F_hull_length (fun x => match x with | (a0) => [(V.sl (recs eTHullSection (a0)) (a0).length)]) (fun r => (V.v (.int .i64 (r))))
theorem h_hull_length : Has Try.prog 63 c_hull_length := by
  refine hasF ctx_nil mix Try.func63 rfl (by kernel_rfl) ?_
  rintro a0 r hF
  refine ⟨of_decide_eq_true rfl, ?_⟩
  refine st1 ?_
  refine st_loopF (e_assoc hF) () [] ⟨sT, sS, by rfl, by rfl⟩ ?_
  · rintro n ⟨_, _⟩ _ x hx1 hF
    (conv => arg 7; whnf); (conv => arg 8; whnf); (conv => arg 9; whnf)
    refine st1 ?_
    rcases e_bif hF with ⟨hb3, hF⟩ | ⟨hb3, hF⟩ <;> (first | rw [hb3] | (conv => arg 7; rw [hb3]) | (conv => arg 9; rw [hb3]))
    · refine st1 ?_
      obtain ⟨_, h, hF⟩ := e_bind hF
      (first | refine o_ia (enc := eTHullSection) (s := 5) h (fun _ => rfl) (by decide) ?_ | refine o_iaT (enc := eTHullSection) (s := 5) h (fun _ => rfl) (by decide) ?_)
      intro _
      refine st1 ?_
      exact k_loopF (e_some hF) hx1 () [] ⟨sT, sS, by rfl, by rfl⟩
    · refine st1 ?_
      have hF := e_some hF
      have hq : some _ = some _ := hF
      cases hq
      exact en1


@[reducible] noncomputable def c_numbers_Every_HullSection (C : FuncId → Option Con) : Con := conK F_numbers_Every_HullSection (fun x => match x with | (a0, a1, g, caps) => [(V.sl (recs eTHullSection (a0)) (a0).length), (V.fn g caps)]) (fun x => match x with | (a0, a1, g, caps) => Callable (ext C []) g caps (fun x => match x with | (q0) => [(V.agg (eTHullSection q0))]) (fun r => (V.v (.bool (r)))) a1) (fun r => (V.v (.bool (r))))
theorem h_numbers_Every_HullSection {C : FuncId → Option Con} (hC : CtxOK Try.prog C) : Has Try.prog 70 (c_numbers_Every_HullSection C) := by
  refine hasK (ext_nil hC) mix Try.func70 rfl (by kernel_rfl) ?_
  rintro ⟨a0, a1, g, caps⟩ r hcl hF
  obtain ⟨hcaps, c, hc, hce, hcf, hcall⟩ := id hcl
  refine ⟨of_decide_eq_true rfl, ?_⟩
  refine st1 ?_
  refine st_loopF (e_assoc hF) () [] ⟨sT, sS, by rfl, by rfl⟩ ?_
  · rintro n _ _ x hx1 hF
    (conv => arg 7; whnf); (conv => arg 8; whnf); (conv => arg 9; whnf)
    refine st1 ?_
    rcases e_bif hF with ⟨hb5, hF⟩ | ⟨hb5, hF⟩ <;> (first | rw [hb5] | (conv => arg 7; rw [hb5]) | (conv => arg 9; rw [hb5]))
    · refine st1 ?_
      obtain ⟨_, h, hF⟩ := e_bind hF
      (first | refine o_ia (enc := eTHullSection) (s := 5) h (fun _ => rfl) (by decide) ?_ | refine o_iaT (enc := eTHullSection) (s := 5) h (fun _ => rfl) (by decide) ?_)
      intro _
      refine st1 ?_
      obtain ⟨_, h, hF⟩ := e_bind hF
      rw [hc]
      (conv => arg 1; whnf)
      rw [hce, hcf]
      (conv => arg 1; whnf)
      (first | refine go_map hcaps rfl ?_ | refine goT_map hcaps rfl ?_)
      (conv => arg 1; whnf)
      obtain ⟨z, hz1, hz2, hz3⟩ := hcall _ _ h
      (first | refine go_exi z ⟨levs_eq hz1.symm, hz2⟩ ?_ | refine goT_exi z ⟨levs_eq hz1.symm, hz2⟩ ?_)
      rw [hz3]
      (conv => arg 1; whnf)
      refine st1 ?_
      rcases e_bif hF with ⟨hb6, hF⟩ | ⟨hb6, hF⟩ <;> (first | rw [hb6] | (conv => arg 7; rw [hb6]) | (conv => arg 9; rw [hb6]))
      · refine st1 ?_
        have hF := e_some hF
        have hq : some _ = some _ := hF
        cases hq
        exact en1
      · refine st1 ?_
        exact k_loopF (e_some hF) hx1 () [] ⟨sT, sS, by rfl, by rfl⟩
    · refine st1 ?_
      have hF := e_some hF
      have hq : some _ = some _ := hF
      cases hq
      exact en1


@[reducible] noncomputable def c_hull_validCurve : Con := conF F_hull_validCurve (fun x => match x with | (a0) => [(V.sl (recs eTHullRow (a0)) (a0).length)]) (fun r => (V.v (.bool (r))))
theorem fl_hull_validCurve_113 : flatOf Try.prog 9 113 = some [true, true] := by kernel_rfl
theorem eg_hull_validCurve_113 : Try.prog.eqGuardType Try.prog.depth 113 = false := by kernel_rfl
theorem ag_hull_validCurve_113 : aggOf Try.prog 113 = some true := by kernel_rfl
theorem h_hull_validCurve : Has Try.prog 96 c_hull_validCurve := by
  refine hasF (ctx_cons h_numbers_Within ctx_nil) mix Try.func96 rfl (by kernel_rfl) ?_
  rintro a0 r hF
  refine ⟨of_decide_eq_true rfl, ?_⟩
  refine st1 ?_
  obtain ⟨_, h, hF⟩ := e_bind hF
  (first | refine g_call h lv1 ?_ | refine g_callT h lv1 ?_)
  (conv => arg 1; whnf)
  refine st1 ?_
  rcases e_bif hF with ⟨hb1, hF⟩ | ⟨hb1, hF⟩ <;> (first | rw [hb1] | (conv => arg 7; rw [hb1]) | (conv => arg 9; rw [hb1]))
  · refine st1 ?_
    have hq : some _ = some _ := hF
    cases hq
    exact en1
  · refine st1 ?_
    obtain ⟨_, h, hF⟩ := e_bind hF
    (first | refine o_ia (enc := eTHullRow) (s := 2) h (fun _ => rfl) (by decide) ?_ | refine o_iaT (enc := eTHullRow) (s := 2) h (fun _ => rfl) (by decide) ?_)
    intro _
    refine st1 ?_
    rw [fl_hull_validCurve_113, eg_hull_validCurve_113, ag_hull_validCurve_113]
    (conv => arg 1; whnf)
    refine st1 ?_
    rcases e_bif hF with ⟨hb2, hF⟩ | ⟨hb2, hF⟩ <;> (first | rw [hb2] | (conv => arg 7; rw [hb2]) | (conv => arg 9; rw [hb2]))
    · refine st1 ?_
      have hq : some _ = some _ := hF
      cases hq
      exact en1
    · refine st1 ?_
      refine st_loopF (e_assoc hF) () [] ⟨sT, sS, by rfl, by rfl⟩ ?_
      · rintro n _ _ x hx1 hF
        (conv => arg 7; whnf); (conv => arg 8; whnf); (conv => arg 9; whnf)
        refine st1 ?_
        rcases e_bif hF with ⟨hb9, hF⟩ | ⟨hb9, hF⟩ <;> (first | rw [hb9] | (conv => arg 7; rw [hb9]) | (conv => arg 9; rw [hb9]))
        · refine st1 ?_
          obtain ⟨_, h, hF⟩ := e_bind hF
          (first | refine o_ia (enc := eTHullRow) (s := 2) h (fun _ => rfl) (by decide) ?_ | refine o_iaT (enc := eTHullRow) (s := 2) h (fun _ => rfl) (by decide) ?_)
          intro _
          refine st1 ?_
          obtain ⟨_, h, hF⟩ := e_bind hF
          (first | refine o_ia (enc := eTHullRow) (s := 2) h (fun _ => rfl) (by decide) ?_ | refine o_iaT (enc := eTHullRow) (s := 2) h (fun _ => rfl) (by decide) ?_)
          intro _
          refine st1 ?_
          rcases e_bif hF with ⟨hb10, hF⟩ | ⟨hb10, hF⟩ <;> (first | rw [hb10] | (conv => arg 7; rw [hb10]) | (conv => arg 9; rw [hb10]))
          · refine st1 ?_
            have hF := e_some hF
            have hq : some _ = some _ := hF
            cases hq
            exact en1
          · refine st1 ?_
            obtain ⟨_, h, hF⟩ := e_bind hF
            (first | refine o_ia (enc := eTHullRow) (s := 2) h (fun _ => rfl) (by decide) ?_ | refine o_iaT (enc := eTHullRow) (s := 2) h (fun _ => rfl) (by decide) ?_)
            intro _
            refine st1 ?_
            obtain ⟨_, h, hF⟩ := e_bind hF
            (first | refine o_ia (enc := eTHullRow) (s := 2) h (fun _ => rfl) (by decide) ?_ | refine o_iaT (enc := eTHullRow) (s := 2) h (fun _ => rfl) (by decide) ?_)
            intro _
            refine st1 ?_
            rcases e_bif hF with ⟨hb11, hF⟩ | ⟨hb11, hF⟩ <;> (first | rw [hb11] | (conv => arg 7; rw [hb11]) | (conv => arg 9; rw [hb11]))
            · refine st1 ?_
              have hF := e_some hF
              have hq : some _ = some _ := hF
              cases hq
              exact en1
            · refine st1 ?_
              exact k_loopF (e_some hF) hx1 () [] ⟨sT, sS, by rfl, by rfl⟩
        · refine st1 ?_
          have hF := e_some hF
          obtain ⟨_, h, hF⟩ := e_bind hF
          (first | refine o_ia (enc := eTHullRow) (s := 2) h (fun _ => rfl) (by decide) ?_ | refine o_iaT (enc := eTHullRow) (s := 2) h (fun _ => rfl) (by decide) ?_)
          intro _
          refine st1 ?_
          rcases e_bif hF with ⟨hb12, hF⟩ | ⟨hb12, hF⟩ <;> (first | rw [hb12] | (conv => arg 7; rw [hb12]) | (conv => arg 9; rw [hb12]))
          · refine st1 ?_
            have hq : some _ = some _ := hF
            cases hq
            exact en1
          · refine st1 ?_
            have hq : some _ = some _ := hF
            cases hq
            exact en1


@[reducible] noncomputable def c_numbers_Every_HullHold (C : FuncId → Option Con) : Con := conK F_numbers_Every_HullHold (fun x => match x with | (a0, a1, g, caps) => [(V.sl (recs eTHullHold (a0)) (a0).length), (V.fn g caps)]) (fun x => match x with | (a0, a1, g, caps) => Callable (ext C []) g caps (fun x => match x with | (q0) => [(V.agg (eTHullHold q0))]) (fun r => (V.v (.bool (r)))) a1) (fun r => (V.v (.bool (r))))
theorem h_numbers_Every_HullHold {C : FuncId → Option Con} (hC : CtxOK Try.prog C) : Has Try.prog 97 (c_numbers_Every_HullHold C) := by
  refine hasK (ext_nil hC) mix Try.func97 rfl (by kernel_rfl) ?_
  rintro ⟨a0, a1, g, caps⟩ r hcl hF
  obtain ⟨hcaps, c, hc, hce, hcf, hcall⟩ := id hcl
  refine ⟨of_decide_eq_true rfl, ?_⟩
  refine st1 ?_
  refine st_loopF (e_assoc hF) () [] ⟨sT, sS, by rfl, by rfl⟩ ?_
  · rintro n _ _ x hx1 hF
    (conv => arg 7; whnf); (conv => arg 8; whnf); (conv => arg 9; whnf)
    refine st1 ?_
    rcases e_bif hF with ⟨hb5, hF⟩ | ⟨hb5, hF⟩ <;> (first | rw [hb5] | (conv => arg 7; rw [hb5]) | (conv => arg 9; rw [hb5]))
    · refine st1 ?_
      obtain ⟨_, h, hF⟩ := e_bind hF
      (first | refine o_ia (enc := eTHullHold) (s := 2) h (fun _ => rfl) (by decide) ?_ | refine o_iaT (enc := eTHullHold) (s := 2) h (fun _ => rfl) (by decide) ?_)
      intro _
      refine st1 ?_
      obtain ⟨_, h, hF⟩ := e_bind hF
      rw [hc]
      (conv => arg 1; whnf)
      rw [hce, hcf]
      (conv => arg 1; whnf)
      (first | refine go_map hcaps rfl ?_ | refine goT_map hcaps rfl ?_)
      (conv => arg 1; whnf)
      obtain ⟨z, hz1, hz2, hz3⟩ := hcall _ _ h
      (first | refine go_exi z ⟨levs_eq hz1.symm, hz2⟩ ?_ | refine goT_exi z ⟨levs_eq hz1.symm, hz2⟩ ?_)
      rw [hz3]
      (conv => arg 1; whnf)
      refine st1 ?_
      rcases e_bif hF with ⟨hb6, hF⟩ | ⟨hb6, hF⟩ <;> (first | rw [hb6] | (conv => arg 7; rw [hb6]) | (conv => arg 9; rw [hb6]))
      · refine st1 ?_
        have hF := e_some hF
        have hq : some _ = some _ := hF
        cases hq
        exact en1
      · refine st1 ?_
        exact k_loopF (e_some hF) hx1 () [] ⟨sT, sS, by rfl, by rfl⟩
    · refine st1 ?_
      have hF := e_some hF
      have hq : some _ = some _ := hF
      cases hq
      exact en1


@[reducible] noncomputable def c_hull_validSection_1 : Con := conF F_hull_validSection_1 (fun x => match x with | (a0, c0) => [(V.agg (eTHullHold a0)), (V.fptr [(V.v (.int .i64 (c0.Length))), (V.v (.int .i64 (c0.Light))), (V.v (.int .i64 (c0.Trim))), (V.sl (recs eTHullRow (c0.Curve)) (c0.Curve).length), (V.sl (recs eTHullHold (c0.Holds)) (c0.Holds).length)])]) (fun r => (V.v (.bool (r))))
theorem h_hull_validSection_1 : Has Try.prog 98 c_hull_validSection_1 := by
  refine hasF (ctx_cons h_numbers_Within ctx_nil) mix Try.func98 rfl (by kernel_rfl) ?_
  rintro ⟨a0, c0⟩ r hF
  refine ⟨of_decide_eq_true rfl, ?_⟩
  refine st1 ?_
  obtain ⟨_, h, hF⟩ := e_bind hF
  (first | refine g_call h lv1 ?_ | refine g_callT h lv1 ?_)
  (conv => arg 1; whnf)
  refine st1 ?_
  rcases e_bif hF with ⟨hb1, hF⟩ | ⟨hb1, hF⟩ <;> (first | rw [hb1] | (conv => arg 7; rw [hb1]) | (conv => arg 9; rw [hb1]))
  · refine st1 ?_
    obtain ⟨_, h, hF⟩ := e_bind hF
    (first | refine g_call h lv1 ?_ | refine g_callT h lv1 ?_)
    (conv => arg 1; whnf)
    refine st1 ?_
    have hq : some _ = some _ := hF
    cases hq
    exact en1
  · refine st1 ?_
    have hq : some _ = some _ := hF
    cases hq
    exact en1


@[reducible] noncomputable def c_hull_validSection : Con := conF F_hull_validSection (fun x => match x with | (a0) => [(V.agg (eTHullSection a0))]) (fun r => (V.v (.bool (r))))
theorem h_hull_validSection : Has Try.prog 71 c_hull_validSection := by
  refine hasF (ctx_cons (h_numbers_Every_HullHold (ctx_cons h_hull_validSection_1 ctx_nil)) (ctx_cons h_hull_validCurve (ctx_cons h_numbers_Within ctx_nil))) mix Try.func71 rfl (by kernel_rfl) ?_
  rintro a0 r hF
  refine ⟨of_decide_eq_true rfl, ?_⟩
  refine st1 ?_
  obtain ⟨_, h, hF⟩ := e_bind hF
  (first | refine g_call h lv1 ?_ | refine g_callT h lv1 ?_)
  (conv => arg 1; whnf)
  refine st1 ?_
  rcases e_bif hF with ⟨hb1, hF⟩ | ⟨hb1, hF⟩ <;> (first | rw [hb1] | (conv => arg 7; rw [hb1]) | (conv => arg 9; rw [hb1]))
  · refine st1 ?_
    obtain ⟨_, h, hF⟩ := e_bind hF
    (first | refine g_call h lv1 ?_ | refine g_callT h lv1 ?_)
    (conv => arg 1; whnf)
    refine st1 ?_
    rcases e_bif hF with ⟨hb2, hF⟩ | ⟨hb2, hF⟩ <;> (first | rw [hb2] | (conv => arg 7; rw [hb2]) | (conv => arg 9; rw [hb2]))
    · refine st1 ?_
      obtain ⟨_, h, hF⟩ := e_bind hF
      (first | refine g_call h lv1 ?_ | refine g_callT h lv1 ?_)
      (conv => arg 1; whnf)
      refine st1 ?_
      rcases e_bif hF with ⟨hb3, hF⟩ | ⟨hb3, hF⟩ <;> (first | rw [hb3] | (conv => arg 7; rw [hb3]) | (conv => arg 9; rw [hb3]))
      · refine st1 ?_
        obtain ⟨_, h, hF⟩ := e_bind hF
        (first | refine g_call h lv1 ?_ | refine g_callT h lv1 ?_)
        (conv => arg 1; whnf)
        refine st1 ?_
        rcases e_bif hF with ⟨hb4, hF⟩ | ⟨hb4, hF⟩ <;> (first | rw [hb4] | (conv => arg 7; rw [hb4]) | (conv => arg 9; rw [hb4]))
        · refine st1 ?_
          obtain ⟨_, h, hF⟩ := e_bind hF
          (first | refine g_hcall h lv1 (callable_conF rfl rfl (fun _ => rfl)) ?_ | refine g_hcallT h lv1 (callable_conF rfl rfl (fun _ => rfl)) ?_)
          (conv => arg 1; whnf)
          refine st1 ?_
          have hq : some _ = some _ := hF
          cases hq
          exact en1
        · refine st1 ?_
          have hq : some _ = some _ := hF
          cases hq
          exact en1
      · refine st1 ?_
        have hq : some _ = some _ := hF
        cases hq
        exact en1
    · refine st1 ?_
      have hq : some _ = some _ := hF
      cases hq
      exact en1
  · refine st1 ?_
    have hq : some _ = some _ := hF
    cases hq
    exact en1


@[reducible] noncomputable def c_hull_holds : Con := conF F_hull_holds (fun x => match x with | (a0) => [(V.sl (recs eTHullSection (a0)) (a0).length)]) (fun r => (V.v (.int .i64 (r))))
theorem h_hull_holds : Has Try.prog 72 c_hull_holds := by
  refine hasF ctx_nil mix Try.func72 rfl (by kernel_rfl) ?_
  rintro a0 r hF
  refine ⟨of_decide_eq_true rfl, ?_⟩
  refine st1 ?_
  refine st_loopF (e_assoc hF) () [] ⟨sT, sS, by rfl, by rfl⟩ ?_
  · rintro n ⟨_, _⟩ _ x hx1 hF
    (conv => arg 7; whnf); (conv => arg 8; whnf); (conv => arg 9; whnf)
    refine st1 ?_
    rcases e_bif hF with ⟨hb3, hF⟩ | ⟨hb3, hF⟩ <;> (first | rw [hb3] | (conv => arg 7; rw [hb3]) | (conv => arg 9; rw [hb3]))
    · refine st1 ?_
      obtain ⟨_, h, hF⟩ := e_bind hF
      (first | refine o_ia (enc := eTHullSection) (s := 5) h (fun _ => rfl) (by decide) ?_ | refine o_iaT (enc := eTHullSection) (s := 5) h (fun _ => rfl) (by decide) ?_)
      intro _
      refine st1 ?_
      exact k_loopF (e_some hF) hx1 () [] ⟨sT, sS, by rfl, by rfl⟩
    · refine st1 ?_
      have hF := e_some hF
      have hq : some _ = some _ := hF
      cases hq
      exact en1


@[reducible] noncomputable def c_hull_Check : Con := conF F_hull_Check (fun x => match x with | (a0) => [(V.agg (eTHull a0))]) (fun r => (V.v (.int .i64 (r))))
theorem h_hull_Check : Has Try.prog 43 c_hull_Check := by
  refine hasF (ctx_cons (h_numbers_Every_HullSection (ctx_cons h_hull_validSection ctx_nil)) (ctx_cons h_hull_holds (ctx_cons h_hull_length (ctx_cons h_numbers_Within ctx_nil)))) mix Try.func43 rfl (by kernel_rfl) ?_
  rintro a0 r hF
  refine ⟨of_decide_eq_true rfl, ?_⟩
  refine st1 ?_
  obtain ⟨_, h, hF⟩ := e_bind hF
  (first | refine g_call h lv1 ?_ | refine g_callT h lv1 ?_)
  (conv => arg 1; whnf)
  refine st1 ?_
  rcases e_bif hF with ⟨hb1, hF⟩ | ⟨hb1, hF⟩ <;> (first | rw [hb1] | (conv => arg 7; rw [hb1]) | (conv => arg 9; rw [hb1]))
  · refine st1 ?_
    have hq : some _ = some _ := hF
    cases hq
    exact en1
  · refine st1 ?_
    obtain ⟨_, h, hF⟩ := e_bind hF
    (first | refine g_call h lv1 ?_ | refine g_callT h lv1 ?_)
    (conv => arg 1; whnf)
    refine st1 ?_
    rcases e_bif hF with ⟨hb2, hF⟩ | ⟨hb2, hF⟩ <;> (first | rw [hb2] | (conv => arg 7; rw [hb2]) | (conv => arg 9; rw [hb2]))
    · refine st1 ?_
      have hq : some _ = some _ := hF
      cases hq
      exact en1
    · refine st1 ?_
      obtain ⟨_, h, hF⟩ := e_bind hF
      (first | refine g_hcall h lv1 (callable_conF rfl rfl (fun _ => rfl)) ?_ | refine g_hcallT h lv1 (callable_conF rfl rfl (fun _ => rfl)) ?_)
      (conv => arg 1; whnf)
      refine st1 ?_
      rcases e_bif hF with ⟨hb3, hF⟩ | ⟨hb3, hF⟩ <;> (first | rw [hb3] | (conv => arg 7; rw [hb3]) | (conv => arg 9; rw [hb3]))
      · refine st1 ?_
        have hq : some _ = some _ := hF
        cases hq
        exact en1
      · refine st1 ?_
        obtain ⟨_, h, hF⟩ := e_bind hF
        (first | refine g_call h lv1 ?_ | refine g_callT h lv1 ?_)
        (conv => arg 1; whnf)
        refine st1 ?_
        rcases e_bif hF with ⟨hb4, hF⟩ | ⟨hb4, hF⟩ <;> (first | rw [hb4] | (conv => arg 7; rw [hb4]) | (conv => arg 9; rw [hb4]))
        · refine st1 ?_
          have hq : some _ = some _ := hF
          cases hq
          exact en1
        · refine st1 ?_
          obtain ⟨_, h, hF⟩ := e_bind hF
          (first | refine g_call h lv1 ?_ | refine g_callT h lv1 ?_)
          (conv => arg 1; whnf)
          refine st1 ?_
          rcases e_bif hF with ⟨hb5, hF⟩ | ⟨hb5, hF⟩ <;> (first | rw [hb5] | (conv => arg 7; rw [hb5]) | (conv => arg 9; rw [hb5]))
          · refine st1 ?_
            have hq : some _ = some _ := hF
            cases hq
            exact en1
          · refine st1 ?_
            have hq : some _ = some _ := hF
            cases hq
            exact en1


@[reducible] noncomputable def c_hull_launch : Con := conF F_hull_launch (fun x => match x with | (a0) => [(V.agg (eTHull a0))]) (fun r => V.tup [(V.agg (eThull_ship r.1)), (V.v (.int .i64 (r.2)))])
theorem h_hull_launch : Has Try.prog 38 c_hull_launch := by
  refine hasF (ctx_cons h_hull_length (ctx_cons h_hull_Check ctx_nil)) mix Try.func38 rfl (by kernel_rfl) ?_
  rintro a0 r hF
  refine ⟨of_decide_eq_true rfl, ?_⟩
  refine st1 ?_
  obtain ⟨_, h, hF⟩ := e_bind hF
  (first | refine g_call h lv1 ?_ | refine g_callT h lv1 ?_)
  (conv => arg 1; whnf)
  refine st1 ?_
  rcases e_bif hF with ⟨hb1, hF⟩ | ⟨hb1, hF⟩ <;> (first | rw [hb1] | (conv => arg 7; rw [hb1]) | (conv => arg 9; rw [hb1]))
  · refine st1 ?_
    have hq : some _ = some _ := hF
    cases hq
    exact en1
  · refine st1 ?_
    obtain ⟨_, h, hF⟩ := e_bind hF
    (first | refine g_call h lv1 ?_ | refine g_callT h lv1 ?_)
    (conv => arg 1; whnf)
    refine st1 ?_
    refine st_loopF (e_assoc hF) () [(1, _), (10, _)] ⟨sT, sS, by rfl, by rfl⟩ ?_
    · rintro n ⟨_, _, _, _, _, _, _⟩ _ x hx1 hF
      (conv => arg 7; whnf); (conv => arg 8; whnf); (conv => arg 9; whnf)
      refine st1 ?_
      rcases e_bif hF with ⟨hb15, hF⟩ | ⟨hb15, hF⟩ <;> (first | rw [hb15] | (conv => arg 7; rw [hb15]) | (conv => arg 9; rw [hb15]))
      · refine st1 ?_
        obtain ⟨_, h, hF⟩ := e_bind hF
        (first | refine o_ia (enc := eTHullSection) (s := 5) h (fun _ => rfl) (by decide) ?_ | refine o_iaT (enc := eTHullSection) (s := 5) h (fun _ => rfl) (by decide) ?_)
        intro _
        refine st1 ?_
        obtain ⟨_, h, hF⟩ := e_bind hF
        (first | refine o_ia (enc := eTHullRow) (s := 2) h (fun _ => rfl) (by decide) ?_ | refine o_iaT (enc := eTHullRow) (s := 2) h (fun _ => rfl) (by decide) ?_)
        intro _
        refine st1 ?_
        refine st_loopF (e_assoc hF) () [(1, _), (10, _), (11, _), (15, _)] ⟨sT, sS, by rfl, by rfl⟩ ?_
        · rintro n ⟨_, _⟩ _ x hx2 hF
          (conv => arg 7; whnf); (conv => arg 8; whnf); (conv => arg 9; whnf)
          refine st1 ?_
          rcases e_bif hF with ⟨hb18, hF⟩ | ⟨hb18, hF⟩ <;> (first | rw [hb18] | (conv => arg 7; rw [hb18]) | (conv => arg 9; rw [hb18]))
          · refine st1 ?_
            obtain ⟨_, h, hF⟩ := e_bind hF
            (first | refine o_ia (enc := eTHullHold) (s := 2) h (fun _ => rfl) (by decide) ?_ | refine o_iaT (enc := eTHullHold) (s := 2) h (fun _ => rfl) (by decide) ?_)
            intro _
            refine st1 ?_
            obtain ⟨_, h, hF⟩ := e_bind hF
            (first | refine o_app (enc := eThull_hold) (s := 3) h (fun _ => rfl) ?_ | refine o_appT (enc := eThull_hold) (s := 3) h (fun _ => rfl) ?_)
            refine st1 ?_
            exact k_loopF (e_some hF) hx2 () [(1, _), (10, _), (11, _), (15, _)] ⟨sT, sS, by rfl, by rfl⟩
          · refine st1 ?_
            have hF := e_some hF
            exact k_loopF (e_some hF) hx1 () [(1, _), (10, _), (11, _)] ⟨sT, sS, by rfl, by rfl⟩
      · refine st1 ?_
        have hF := e_some hF
        have hq : some _ = some _ := hF
        cases hq
        exact en1


@[reducible] noncomputable def c_hull_ship_checkLoad : Con := conF F_hull_ship_checkLoad (fun x => match x with | (a0, a1) => [(V.agg (eThull_ship a0)), (V.sl (recs (eI .i64) (a1)) (a1).length)]) (fun r => (V.v (.int .i64 (r))))
theorem h_hull_ship_checkLoad : Has Try.prog 39 c_hull_ship_checkLoad := by
  refine hasF (ctx_cons h_numbers_Within ctx_nil) mix Try.func39 rfl (by kernel_rfl) ?_
  rintro ⟨a0, a1⟩ r hF
  refine ⟨of_decide_eq_true rfl, ?_⟩
  refine st1 ?_
  rcases e_bif hF with ⟨hb1, hF⟩ | ⟨hb1, hF⟩ <;> (first | rw [hb1] | (conv => arg 7; rw [hb1]) | (conv => arg 9; rw [hb1]))
  · refine st1 ?_
    have hq : some _ = some _ := hF
    cases hq
    exact en1
  · refine st1 ?_
    refine st_loopF (e_assoc hF) () [(0, _)] ⟨sT, sS, by rfl, by rfl⟩ ?_
    · rintro n _ _ x hx1 hF
      (conv => arg 7; whnf); (conv => arg 8; whnf); (conv => arg 9; whnf)
      refine st1 ?_
      rcases e_bif hF with ⟨hb6, hF⟩ | ⟨hb6, hF⟩ <;> (first | rw [hb6] | (conv => arg 7; rw [hb6]) | (conv => arg 9; rw [hb6]))
      · refine st1 ?_
        obtain ⟨_, h, hF⟩ := e_bind hF
        (first | refine o_ia (enc := (eI .i64)) (s := 1) h (fun _ => rfl) (by decide) ?_ | refine o_iaT (enc := (eI .i64)) (s := 1) h (fun _ => rfl) (by decide) ?_)
        intro _
        refine st1 ?_
        obtain ⟨_, h, hF⟩ := e_bind hF
        (first | refine o_ia (enc := eThull_hold) (s := 3) h (fun _ => rfl) (by decide) ?_ | refine o_iaT (enc := eThull_hold) (s := 3) h (fun _ => rfl) (by decide) ?_)
        intro _
        refine st1 ?_
        obtain ⟨_, h, hF⟩ := e_bind hF
        (first | refine g_call h lv1 ?_ | refine g_callT h lv1 ?_)
        (conv => arg 1; whnf)
        refine st1 ?_
        rcases e_bif hF with ⟨hb7, hF⟩ | ⟨hb7, hF⟩ <;> (first | rw [hb7] | (conv => arg 7; rw [hb7]) | (conv => arg 9; rw [hb7]))
        · refine st1 ?_
          have hF := e_some hF
          have hq : some _ = some _ := hF
          cases hq
          exact en1
        · refine st1 ?_
          exact k_loopF (e_some hF) hx1 () [(0, _)] ⟨sT, sS, by rfl, by rfl⟩
      · refine st1 ?_
        have hF := e_some hF
        have hq : some _ = some _ := hF
        cases hq
        exact en1


@[reducible] noncomputable def c_numbers_Valid : Con := conF F_numbers_Valid (fun x => match x with | (a0, a1, a2) => [(V.agg (eTBounds a0)), (V.v (.int .i64 (a1))), (V.v (.int .i64 (a2)))]) (fun r => (V.v (.bool (r))))
theorem h_numbers_Valid : Has Try.prog 34 c_numbers_Valid := by
  refine hasF (ctx_cons h_numbers_Within ctx_nil) mix Try.func34 rfl (by kernel_rfl) ?_
  rintro ⟨a0, a1, a2⟩ r hF
  refine ⟨of_decide_eq_true rfl, ?_⟩
  refine st1 ?_
  rcases e_bif hF with ⟨hb1, hF⟩ | ⟨hb1, hF⟩ <;> (first | rw [hb1] | (conv => arg 7; rw [hb1]) | (conv => arg 9; rw [hb1]))
  · refine st1 ?_
    obtain ⟨_, h, hF⟩ := e_bind hF
    (first | refine g_call h lv1 ?_ | refine g_callT h lv1 ?_)
    (conv => arg 1; whnf)
    refine st1 ?_
    have hq : some _ = some _ := hF
    cases hq
    exact en1
  · refine st1 ?_
    have hq : some _ = some _ := hF
    cases hq
    exact en1


@[reducible] noncomputable def c_hull_validDensity : Con := conF F_hull_validDensity (fun x => match x with | (a0) => [(V.agg (eTBounds a0))]) (fun r => (V.v (.bool (r))))
theorem h_hull_validDensity : Has Try.prog 40 c_hull_validDensity := by
  refine hasF (ctx_cons h_numbers_Valid ctx_nil) mix Try.func40 rfl (by kernel_rfl) ?_
  rintro a0 r hF
  refine ⟨of_decide_eq_true rfl, ?_⟩
  refine st1 ?_
  obtain ⟨_, h, hF⟩ := e_bind hF
  (first | refine g_call h lv1 ?_ | refine g_callT h lv1 ?_)
  (conv => arg 1; whnf)
  refine st1 ?_
  have hq : some _ = some _ := hF
  cases hq
  exact en1


@[reducible] noncomputable def c_hull_ship_loaded : Con := conF F_hull_ship_loaded (fun x => match x with | (a0, a1) => [(V.agg (eThull_ship a0)), (V.sl (recs (eI .i64) (a1)) (a1).length)]) (fun r => V.tup [(V.v (.int .i64 (r.1))), (V.v (.int .i64 (r.2)))])
theorem h_hull_ship_loaded : Has Try.prog 64 c_hull_ship_loaded := by
  refine hasF ctx_nil mix Try.func64 rfl (by kernel_rfl) ?_
  rintro ⟨a0, a1⟩ r hF
  refine ⟨of_decide_eq_true rfl, ?_⟩
  refine st1 ?_
  refine st_loopF (e_assoc hF) () [(0, _)] ⟨sT, sS, by rfl, by rfl⟩ ?_
  · rintro n ⟨_, _, _⟩ _ x hx1 hF
    (conv => arg 7; whnf); (conv => arg 8; whnf); (conv => arg 9; whnf)
    refine st1 ?_
    rcases e_bif hF with ⟨hb3, hF⟩ | ⟨hb3, hF⟩ <;> (first | rw [hb3] | (conv => arg 7; rw [hb3]) | (conv => arg 9; rw [hb3]))
    · refine st1 ?_
      obtain ⟨_, h, hF⟩ := e_bind hF
      (first | refine o_ia (enc := (eI .i64)) (s := 1) h (fun _ => rfl) (by decide) ?_ | refine o_iaT (enc := (eI .i64)) (s := 1) h (fun _ => rfl) (by decide) ?_)
      intro _
      refine st1 ?_
      obtain ⟨_, h, hF⟩ := e_bind hF
      (first | refine o_ia (enc := eThull_hold) (s := 3) h (fun _ => rfl) (by decide) ?_ | refine o_iaT (enc := eThull_hold) (s := 3) h (fun _ => rfl) (by decide) ?_)
      intro _
      refine st1 ?_
      exact k_loopF (e_some hF) hx1 () [(0, _)] ⟨sT, sS, by rfl, by rfl⟩
    · refine st1 ?_
      have hF := e_some hF
      have hq : some _ = some _ := hF
      cases hq
      exact en1


@[reducible] noncomputable def c_numbers_Down : Con := conF F_numbers_Down (fun x => match x with | (a0, a1) => [(V.v (.int .i64 (a0))), (V.v (.int .i64 (a1)))]) (fun r => (V.v (.int .i64 (r))))
theorem h_numbers_Down : Has Try.prog 92 c_numbers_Down := by
  refine hasF ctx_nil mix Try.func92 rfl (by kernel_rfl) ?_
  rintro ⟨a0, a1⟩ r hF
  refine ⟨of_decide_eq_true rfl, ?_⟩
  refine st1 ?_
  obtain ⟨_, h, hF⟩ := e_bind hF
  (first | refine go_req (nz_ne h) ?_ | refine goT_req (nz_ne h) ?_)
  (conv => arg 1; whnf)
  refine st1 ?_
  rcases e_bif hF with ⟨hb1, hF⟩ | ⟨hb1, hF⟩ <;> (first | rw [hb1] | (conv => arg 7; rw [hb1]) | (conv => arg 9; rw [hb1]))
  · refine st1 ?_
    obtain ⟨_, h, hF⟩ := e_bind hF
    (first | refine go_req (nz_ne h) ?_ | refine goT_req (nz_ne h) ?_)
    (conv => arg 1; whnf)
    refine st1 ?_
    have hq : some _ = some _ := hF
    cases hq
    exact en1
  · refine st1 ?_
    obtain ⟨_, h, hF⟩ := e_bind hF
    (first | refine go_req (nz_ne h) ?_ | refine goT_req (nz_ne h) ?_)
    (conv => arg 1; whnf)
    refine st1 ?_
    have hq : some _ = some _ := hF
    cases hq
    exact en1


@[reducible] noncomputable def c_numbers_Up : Con := conF F_numbers_Up (fun x => match x with | (a0, a1) => [(V.v (.int .i64 (a0))), (V.v (.int .i64 (a1)))]) (fun r => (V.v (.int .i64 (r))))
theorem h_numbers_Up : Has Try.prog 66 c_numbers_Up := by
  refine hasF (ctx_cons h_numbers_Down ctx_nil) mix Try.func66 rfl (by kernel_rfl) ?_
  rintro ⟨a0, a1⟩ r hF
  refine ⟨of_decide_eq_true rfl, ?_⟩
  refine st1 ?_
  obtain ⟨_, h, hF⟩ := e_bind hF
  (first | refine g_call h lv1 ?_ | refine g_callT h lv1 ?_)
  (conv => arg 1; whnf)
  refine st1 ?_
  have hq : some _ = some _ := hF
  cases hq
  exact en1


@[reducible] noncomputable def c_sort_Search (C : FuncId → Option Con) : Con := conK F_sort_Search (fun x => match x with | (a0, a1, g, caps) => [(V.v (.int .i64 (a0))), (V.fn g caps)]) (fun x => match x with | (a0, a1, g, caps) => Callable (ext C []) g caps (fun x => match x with | (q0) => [(V.v (.int .i64 (q0)))]) (fun r => (V.v (.bool (r)))) a1) (fun r => (V.v (.int .i64 (r))))
theorem h_sort_Search {C : FuncId → Option Con} (hC : CtxOK Try.prog C) : Has Try.prog 90 (c_sort_Search C) := by
  refine hasK (ext_nil hC) mix Try.func90 rfl (by kernel_rfl) ?_
  rintro ⟨a0, a1, g, caps⟩ r hcl hF
  obtain ⟨hcaps, c, hc, hce, hcf, hcall⟩ := id hcl
  refine ⟨of_decide_eq_true rfl, ?_⟩
  refine st1 ?_
  refine st_loopF (e_assoc hF) () [] ⟨sT, sS, by rfl, by rfl⟩ ?_
  · rintro n ⟨_, _⟩ _ x hx1 hF
    (conv => arg 7; whnf); (conv => arg 8; whnf); (conv => arg 9; whnf)
    refine st1 ?_
    rcases e_bif hF with ⟨hb5, hF⟩ | ⟨hb5, hF⟩ <;> (first | rw [hb5] | (conv => arg 7; rw [hb5]) | (conv => arg 9; rw [hb5]))
    · refine st1 ?_
      obtain ⟨_, h, hF⟩ := e_bind hF
      rw [hc]
      (conv => arg 1; whnf)
      rw [hce, hcf]
      (conv => arg 1; whnf)
      (first | refine go_map hcaps rfl ?_ | refine goT_map hcaps rfl ?_)
      (conv => arg 1; whnf)
      obtain ⟨z, hz1, hz2, hz3⟩ := hcall _ _ h
      (first | refine go_exi z ⟨levs_eq hz1.symm, hz2⟩ ?_ | refine goT_exi z ⟨levs_eq hz1.symm, hz2⟩ ?_)
      rw [hz3]
      (conv => arg 1; whnf)
      refine st1 ?_
      rcases e_bif hF with ⟨hb6, hF⟩ | ⟨hb6, hF⟩ <;> (first | rw [hb6] | (conv => arg 7; rw [hb6]) | (conv => arg 9; rw [hb6]))
      · refine st1 ?_
        exact k_loopF (e_some hF) hx1 () [] ⟨sT, sS, by rfl, by rfl⟩
      · refine st1 ?_
        exact k_loopF (e_some hF) hx1 () [] ⟨sT, sS, by rfl, by rfl⟩
    · refine st1 ?_
      have hF := e_some hF
      have hq : some _ = some _ := hF
      cases hq
      exact en1


@[reducible] noncomputable def c_slices_IndexFunc_L_HullRow_HullRow (C : FuncId → Option Con) : Con := conK F_slices_IndexFunc_L_HullRow_HullRow (fun x => match x with | (a0, a1, g, caps) => [(V.sl (recs eTHullRow (a0)) (a0).length), (V.fn g caps)]) (fun x => match x with | (a0, a1, g, caps) => Callable (ext C []) g caps (fun x => match x with | (q0) => [(V.agg (eTHullRow q0))]) (fun r => (V.v (.bool (r)))) a1) (fun r => (V.v (.int .i64 (r))))
theorem h_slices_IndexFunc_L_HullRow_HullRow {C : FuncId → Option Con} (hC : CtxOK Try.prog C) : Has Try.prog 94 (c_slices_IndexFunc_L_HullRow_HullRow C) := by
  refine hasK (ext_nil hC) mix Try.func94 rfl (by kernel_rfl) ?_
  rintro ⟨a0, a1, g, caps⟩ r hcl hF
  obtain ⟨hcaps, c, hc, hce, hcf, hcall⟩ := id hcl
  refine ⟨of_decide_eq_true rfl, ?_⟩
  refine st1 ?_
  refine st_loopF (e_assoc hF) () [] ⟨sT, sS, by rfl, by rfl⟩ ?_
  · rintro n _ _ x hx1 hF
    (conv => arg 7; whnf); (conv => arg 8; whnf); (conv => arg 9; whnf)
    refine st1 ?_
    rcases e_bif hF with ⟨hb5, hF⟩ | ⟨hb5, hF⟩ <;> (first | rw [hb5] | (conv => arg 7; rw [hb5]) | (conv => arg 9; rw [hb5]))
    · refine st1 ?_
      obtain ⟨_, h, hF⟩ := e_bind hF
      (first | refine o_ia (enc := eTHullRow) (s := 2) h (fun _ => rfl) (by decide) ?_ | refine o_iaT (enc := eTHullRow) (s := 2) h (fun _ => rfl) (by decide) ?_)
      intro _
      refine st1 ?_
      obtain ⟨_, h, hF⟩ := e_bind hF
      rw [hc]
      (conv => arg 1; whnf)
      rw [hce, hcf]
      (conv => arg 1; whnf)
      (first | refine go_map hcaps rfl ?_ | refine goT_map hcaps rfl ?_)
      (conv => arg 1; whnf)
      obtain ⟨z, hz1, hz2, hz3⟩ := hcall _ _ h
      (first | refine go_exi z ⟨levs_eq hz1.symm, hz2⟩ ?_ | refine goT_exi z ⟨levs_eq hz1.symm, hz2⟩ ?_)
      rw [hz3]
      (conv => arg 1; whnf)
      refine st1 ?_
      rcases e_bif hF with ⟨hb6, hF⟩ | ⟨hb6, hF⟩ <;> (first | rw [hb6] | (conv => arg 7; rw [hb6]) | (conv => arg 9; rw [hb6]))
      · refine st1 ?_
        have hF := e_some hF
        have hq : some _ = some _ := hF
        cases hq
        exact en1
      · refine st1 ?_
        exact k_loopF (e_some hF) hx1 () [] ⟨sT, sS, by rfl, by rfl⟩
    · refine st1 ?_
      have hF := e_some hF
      have hq : some _ = some _ := hF
      cases hq
      exact en1


@[reducible] noncomputable def c_hull_curveAt_1 : Con := conF F_hull_curveAt_1 (fun x => match x with | (a0, c0) => [(V.agg (eTHullRow a0)), (V.fptr [(V.v (.int .i64 (c0)))])]) (fun r => (V.v (.bool (r))))
theorem h_hull_curveAt_1 : Has Try.prog 95 c_hull_curveAt_1 := by
  refine hasF ctx_nil mix Try.func95 rfl (by kernel_rfl) ?_
  rintro ⟨a0, c0⟩ r hF
  refine ⟨of_decide_eq_true rfl, ?_⟩
  refine st1 ?_
  have hq : some _ = some _ := hF
  cases hq
  exact en1


@[reducible] noncomputable def c_hull_curveAt : Con := conF F_hull_curveAt (fun x => match x with | (a0, a1) => [(V.sl (recs eTHullRow (a0)) (a0).length), (V.v (.int .i64 (a1)))]) (fun r => (V.v (.int .i64 (r))))
theorem h_hull_curveAt : Has Try.prog 69 c_hull_curveAt := by
  refine hasF (ctx_cons (h_slices_IndexFunc_L_HullRow_HullRow (ctx_cons h_hull_curveAt_1 ctx_nil)) ctx_nil) mix Try.func69 rfl (by kernel_rfl) ?_
  rintro ⟨a0, a1⟩ r hF
  refine ⟨of_decide_eq_true rfl, ?_⟩
  refine st1 ?_
  obtain ⟨_, h, hF⟩ := e_bind hF
  (first | refine o_slc (enc := eTHullRow) (s := 2) h (fun _ => rfl) ?_ | refine o_slcT (enc := eTHullRow) (s := 2) h (fun _ => rfl) ?_)
  refine st1 ?_
  obtain ⟨_, h, hF⟩ := e_bind hF
  (first | refine g_hcall h lv1 (callable_conF rfl rfl (fun _ => rfl)) ?_ | refine g_hcallT h lv1 (callable_conF rfl rfl (fun _ => rfl)) ?_)
  (conv => arg 1; whnf)
  refine st1 ?_
  obtain ⟨_, h, hF⟩ := e_bind hF
  (first | refine o_ia (enc := eTHullRow) (s := 2) h (fun _ => rfl) (by decide) ?_ | refine o_iaT (enc := eTHullRow) (s := 2) h (fun _ => rfl) (by decide) ?_)
  intro _
  refine st1 ?_
  obtain ⟨_, h, hF⟩ := e_bind hF
  (first | refine o_ia (enc := eTHullRow) (s := 2) h (fun _ => rfl) (by decide) ?_ | refine o_iaT (enc := eTHullRow) (s := 2) h (fun _ => rfl) (by decide) ?_)
  intro _
  refine st1 ?_
  obtain ⟨_, h, hF⟩ := e_bind hF
  (first | refine go_req (nz_ne h) ?_ | refine goT_req (nz_ne h) ?_)
  (conv => arg 1; whnf)
  refine st1 ?_
  have hq : some _ = some _ := hF
  cases hq
  exact en1


@[reducible] noncomputable def c_hull_ship_volume : Con := conF F_hull_ship_volume (fun x => match x with | (a0, a1) => [(V.agg (eThull_ship a0)), (V.v (.int .i64 (a1)))]) (fun r => (V.v (.int .i64 (r))))
theorem h_hull_ship_volume : Has Try.prog 42 c_hull_ship_volume := by
  refine hasF (ctx_cons h_hull_curveAt ctx_nil) mix Try.func42 rfl (by kernel_rfl) ?_
  rintro ⟨a0, a1⟩ r hF
  refine ⟨of_decide_eq_true rfl, ?_⟩
  refine st1 ?_
  refine st_loopF (e_assoc hF) () [] ⟨sT, sS, by rfl, by rfl⟩ ?_
  · rintro n ⟨_, _⟩ _ x hx1 hF
    (conv => arg 7; whnf); (conv => arg 8; whnf); (conv => arg 9; whnf)
    refine st1 ?_
    rcases e_bif hF with ⟨hb3, hF⟩ | ⟨hb3, hF⟩ <;> (first | rw [hb3] | (conv => arg 7; rw [hb3]) | (conv => arg 9; rw [hb3]))
    · refine st1 ?_
      obtain ⟨_, h, hF⟩ := e_bind hF
      (first | refine o_ia (enc := eTHullSection) (s := 5) h (fun _ => rfl) (by decide) ?_ | refine o_iaT (enc := eTHullSection) (s := 5) h (fun _ => rfl) (by decide) ?_)
      intro _
      refine st1 ?_
      obtain ⟨_, h, hF⟩ := e_bind hF
      (first | refine g_call h lv1 ?_ | refine g_callT h lv1 ?_)
      (conv => arg 1; whnf)
      refine st1 ?_
      exact k_loopF (e_some hF) hx1 () [] ⟨sT, sS, by rfl, by rfl⟩
    · refine st1 ?_
      have hF := e_some hF
      have hq : some _ = some _ := hF
      cases hq
      exact en1


@[reducible] noncomputable def c_hull_ship_mean_1 : Con := conF F_hull_ship_mean_1 (fun x => match x with | (a0, c0, c1) => [(V.v (.int .i64 (a0))), (V.fptr [(V.v (.int .i64 (c0.Hull.Lot))), (V.sl (recs eTHullSection (c0.Hull.Sections)) (c0.Hull.Sections).length), (V.v (.int .i64 (c0.limit_))), (V.v (.int .i64 (c0.trim_))), (V.v (.int .i64 (c0.mass_))), (V.v (.int .i64 (c0.moment_))), (V.sl (recs eThull_hold (c0.storage_)) (c0.storage_).length)]), (V.fptr [(V.v (.int .i64 (c1)))])]) (fun r => (V.v (.bool (r))))
theorem h_hull_ship_mean_1 : Has Try.prog 91 c_hull_ship_mean_1 := by
  refine hasF (ctx_cons h_hull_ship_volume ctx_nil) mix Try.func91 rfl (by kernel_rfl) ?_
  rintro ⟨a0, c0, c1⟩ r hF
  refine ⟨of_decide_eq_true rfl, ?_⟩
  refine st1 ?_
  obtain ⟨_, h, hF⟩ := e_bind hF
  (first | refine g_call h lv1 ?_ | refine g_callT h lv1 ?_)
  (conv => arg 1; whnf)
  refine st1 ?_
  have hq : some _ = some _ := hF
  cases hq
  exact en1


@[reducible] noncomputable def c_hull_ship_mean : Con := conF F_hull_ship_mean (fun x => match x with | (a0, a1, a2) => [(V.agg (eThull_ship a0)), (V.v (.int .i64 (a1))), (V.v (.int .i64 (a2)))]) (fun r => (V.v (.int .i64 (r))))
theorem h_hull_ship_mean : Has Try.prog 65 c_hull_ship_mean := by
  refine hasF (ctx_cons (h_sort_Search (ctx_cons h_hull_ship_mean_1 ctx_nil)) (ctx_cons h_numbers_Up ctx_nil)) mix Try.func65 rfl (by kernel_rfl) ?_
  rintro ⟨a0, a1, a2⟩ r hF
  refine ⟨of_decide_eq_true rfl, ?_⟩
  refine st1 ?_
  obtain ⟨_, h, hF⟩ := e_bind hF
  (first | refine g_call h lv1 ?_ | refine g_callT h lv1 ?_)
  (conv => arg 1; whnf)
  refine st1 ?_
  obtain ⟨_, h, hF⟩ := e_bind hF
  (first | refine g_hcall h lv1 (callable_conF rfl rfl (fun _ => rfl)) ?_ | refine g_hcallT h lv1 (callable_conF rfl rfl (fun _ => rfl)) ?_)
  (conv => arg 1; whnf)
  refine st1 ?_
  have hq : some _ = some _ := hF
  cases hq
  exact en1


@[reducible] noncomputable def c_hull_withoutSign : Con := conF F_hull_withoutSign (fun x => match x with | (a0) => [(V.v (.int .i64 (a0)))]) (fun r => (V.v (.int .i64 (r))))
theorem h_hull_withoutSign : Has Try.prog 67 c_hull_withoutSign := by
  refine hasF ctx_nil mix Try.func67 rfl (by kernel_rfl) ?_
  rintro a0 r hF
  refine ⟨of_decide_eq_true rfl, ?_⟩
  refine st1 ?_
  have hq : some _ = some _ := hF
  cases hq
  exact en1


@[reducible] noncomputable def c_cmp_isNaN_int : Con := conF F_cmp_isNaN_int (fun x => match x with | (a0) => [(V.v (.int .i64 (a0)))]) (fun r => (V.v (.bool (r))))
theorem h_cmp_isNaN_int : Has Try.prog 93 c_cmp_isNaN_int := by
  refine hasF ctx_nil mix Try.func93 rfl (by kernel_rfl) ?_
  rintro a0 r hF
  refine ⟨of_decide_eq_true rfl, ?_⟩
  refine st1 ?_
  have hq : some _ = some _ := hF
  cases hq
  exact en1


@[reducible] noncomputable def c_cmp_Compare_int : Con := conF F_cmp_Compare_int (fun x => match x with | (a0, a1) => [(V.v (.int .i64 (a0))), (V.v (.int .i64 (a1)))]) (fun r => (V.v (.int .i64 (r))))
theorem h_cmp_Compare_int : Has Try.prog 68 c_cmp_Compare_int := by
  refine hasF (ctx_cons h_cmp_isNaN_int ctx_nil) mix Try.func68 rfl (by kernel_rfl) ?_
  rintro ⟨a0, a1⟩ r hF
  simp only [F_cmp_Compare_int] at hF
  refine ⟨of_decide_eq_true rfl, ?_⟩
  refine st1 ?_
  obtain ⟨_, h, hF⟩ := e_bind hF
  (first | refine g_call h lv1 ?_ | refine g_callT h lv1 ?_)
  (conv => arg 1; whnf)
  refine st1 ?_
  obtain ⟨_, h, hF⟩ := e_bind hF
  (first | refine g_call h lv1 ?_ | refine g_callT h lv1 ?_)
  (conv => arg 1; whnf)
  refine st1 ?_
  rcases e_bif hF with ⟨hb1, hF⟩ | ⟨hb1, hF⟩ <;> (first | rw [hb1] | (conv => arg 7; rw [hb1]) | (conv => arg 9; rw [hb1]))
  · refine st1 ?_
    rcases e_bif hF with ⟨hb2, hF⟩ | ⟨hb2, hF⟩ <;> (first | rw [hb2] | (conv => arg 7; rw [hb2]) | (conv => arg 9; rw [hb2]))
    · refine st1 ?_
      have hq : some _ = some _ := hF
      cases hq
      exact en1
    · refine st1 ?_
      have hq : some _ = some _ := hF
      cases hq
      exact en1
  · refine st1 ?_
    rcases e_bif hF with ⟨hb3, hF⟩ | ⟨hb3, hF⟩ <;> (first | rw [hb3] | (conv => arg 7; rw [hb3]) | (conv => arg 9; rw [hb3]))
    · refine st1 ?_
      have hq : some _ = some _ := hF
      cases hq
      exact en1
    · refine st1 ?_
      rcases e_bif hF with ⟨hb4, hF⟩ | ⟨hb4, hF⟩ <;> (first | rw [hb4] | (conv => arg 7; rw [hb4]) | (conv => arg 9; rw [hb4]))
      · refine st1 ?_
        have hq : some _ = some _ := hF
        cases hq
        exact en1
      · refine st1 ?_
        rcases e_bif hF with ⟨hb5, hF⟩ | ⟨hb5, hF⟩ <;> (first | rw [hb5] | (conv => arg 7; rw [hb5]) | (conv => arg 9; rw [hb5]))
        · refine st1 ?_
          have hq : some _ = some _ := hF
          cases hq
          exact en1
        · refine st1 ?_
          have hq : some _ = some _ := hF
          cases hq
          exact en1


@[reducible] noncomputable def c_hull_ship_float : Con := conF F_hull_ship_float (fun x => match x with | (a0, a1, a2) => [(V.agg (eThull_ship a0)), (V.sl (recs (eI .i64) (a1)) (a1).length), (V.agg (eTBounds a2))]) (fun r => V.tup [(V.agg (eTHullFloat r.1)), (V.v (.int .i64 (r.2)))])
theorem h_hull_ship_float : Has Try.prog 41 c_hull_ship_float := by
  refine hasF (ctx_cons h_cmp_Compare_int (ctx_cons h_hull_withoutSign (ctx_cons h_numbers_Up (ctx_cons h_hull_ship_mean (ctx_cons h_hull_ship_loaded ctx_nil))))) mix Try.func41 rfl (by kernel_rfl) ?_
  rintro ⟨a0, a1, a2⟩ r hF
  refine ⟨of_decide_eq_true rfl, ?_⟩
  refine st1 ?_
  obtain ⟨_, h, hF⟩ := e_bind hF
  (first | refine g_call h lv1 ?_ | refine g_callT h lv1 ?_)
  (conv => arg 1; whnf)
  refine st1 ?_
  obtain ⟨_, h, hF⟩ := e_bind hF
  (first | refine g_call h lv1 ?_ | refine g_callT h lv1 ?_)
  (conv => arg 1; whnf)
  refine st1 ?_
  obtain ⟨_, h, hF⟩ := e_bind hF
  (first | refine g_call h lv1 ?_ | refine g_callT h lv1 ?_)
  (conv => arg 1; whnf)
  refine st1 ?_
  obtain ⟨_, h, hF⟩ := e_bind hF
  (first | refine g_call h lv1 ?_ | refine g_callT h lv1 ?_)
  (conv => arg 1; whnf)
  refine st1 ?_
  obtain ⟨_, h, hF⟩ := e_bind hF
  (first | refine g_call h lv1 ?_ | refine g_callT h lv1 ?_)
  (conv => arg 1; whnf)
  refine st1 ?_
  rcases e_bif hF with ⟨hb1, hF⟩ | ⟨hb1, hF⟩ <;> (first | rw [hb1] | (conv => arg 7; rw [hb1]) | (conv => arg 9; rw [hb1]))
  · refine st1 ?_
    have hq : some _ = some _ := hF
    cases hq
    exact en1
  · refine st1 ?_
    obtain ⟨_, h, hF⟩ := e_bind hF
    (first | refine g_call h lv1 ?_ | refine g_callT h lv1 ?_)
    (conv => arg 1; whnf)
    refine st1 ?_
    have hq : some _ = some _ := hF
    cases hq
    exact en1


@[reducible] noncomputable def c_hull_Float : Con := conF F_hull_Float (fun x => match x with | (a0, a1, a2) => [(V.agg (eTHull a0)), (V.sl (recs (eI .i64) (a1)) (a1).length), (V.agg (eTBounds a2))]) (fun r => V.tup [(V.agg (eTHullFloat r.1)), (V.v (.int .i64 (r.2)))])
theorem h_hull_Float : Has Try.prog 15 c_hull_Float := by
  refine hasF (ctx_cons h_hull_ship_float (ctx_cons h_hull_validDensity (ctx_cons h_hull_ship_checkLoad (ctx_cons h_hull_launch ctx_nil)))) mix Try.func15 rfl (by kernel_rfl) ?_
  rintro ⟨a0, a1, a2⟩ r hF
  refine ⟨of_decide_eq_true rfl, ?_⟩
  refine st1 ?_
  obtain ⟨_, h, hF⟩ := e_bind hF
  (first | refine g_call h lv1 ?_ | refine g_callT h lv1 ?_)
  (conv => arg 1; whnf)
  refine st1 ?_
  rcases e_bif hF with ⟨hb1, hF⟩ | ⟨hb1, hF⟩ <;> (first | rw [hb1] | (conv => arg 7; rw [hb1]) | (conv => arg 9; rw [hb1]))
  · refine st1 ?_
    have hq : some _ = some _ := hF
    cases hq
    exact en1
  · refine st1 ?_
    obtain ⟨_, h, hF⟩ := e_bind hF
    (first | refine g_call h lv1 ?_ | refine g_callT h lv1 ?_)
    (conv => arg 1; whnf)
    refine st1 ?_
    rcases e_bif hF with ⟨hb2, hF⟩ | ⟨hb2, hF⟩ <;> (first | rw [hb2] | (conv => arg 7; rw [hb2]) | (conv => arg 9; rw [hb2]))
    · refine st1 ?_
      have hq : some _ = some _ := hF
      cases hq
      exact en1
    · refine st1 ?_
      obtain ⟨_, h, hF⟩ := e_bind hF
      (first | refine g_call h lv1 ?_ | refine g_callT h lv1 ?_)
      (conv => arg 1; whnf)
      refine st1 ?_
      rcases e_bif hF with ⟨hb3, hF⟩ | ⟨hb3, hF⟩ <;> (first | rw [hb3] | (conv => arg 7; rw [hb3]) | (conv => arg 9; rw [hb3]))
      · refine st1 ?_
        have hq : some _ = some _ := hF
        cases hq
        exact en1
      · refine st1 ?_
        obtain ⟨_, h, hF⟩ := e_bind hF
        (first | refine g_call h lv1 ?_ | refine g_callT h lv1 ?_)
        (conv => arg 1; whnf)
        refine st1 ?_
        have hq : some _ = some _ := hF
        cases hq
        exact en1


@[reducible] noncomputable def c_thalweglaw02_own : Con := conF F_thalweglaw02_own (fun x => match x with | (a0) => [(V.agg (eTHull a0))]) (fun r => (V.agg (eTHull r)))
theorem h_thalweglaw02_own : Has Try.prog 16 c_thalweglaw02_own := by
  refine hasF ctx_nil mix Try.func16 rfl (by kernel_rfl) ?_
  rintro a0 r hF
  refine ⟨of_decide_eq_true rfl, ?_⟩
  refine st1 ?_
  refine st_loopF (e_assoc hF) () [(0, _), (1, _), (5, _)] ⟨sT, sS, by rfl, by rfl⟩ ?_
  · rintro n ⟨_, _⟩ _ x hx1 hF
    (conv => arg 7; whnf); (conv => arg 8; whnf); (conv => arg 9; whnf)
    refine st1 ?_
    rcases e_bif hF with ⟨hb4, hF⟩ | ⟨hb4, hF⟩ <;> (first | rw [hb4] | (conv => arg 7; rw [hb4]) | (conv => arg 9; rw [hb4]))
    · refine st1 ?_
      obtain ⟨_, h, hF⟩ := e_bind hF
      (first | refine o_ia (enc := eTHullSection) (s := 5) h (fun _ => rfl) (by decide) ?_ | refine o_iaT (enc := eTHullSection) (s := 5) h (fun _ => rfl) (by decide) ?_)
      intro _
      refine st1 ?_
      obtain ⟨_, h, hF⟩ := e_bind hF
      (first | refine o_app (enc := eTHullRow) (s := 2) h (fun _ => rfl) ?_ | refine o_appT (enc := eTHullRow) (s := 2) h (fun _ => rfl) ?_)
      refine st1 ?_
      obtain ⟨_, h, hF⟩ := e_bind hF
      (first | refine o_app (enc := eTHullHold) (s := 2) h (fun _ => rfl) ?_ | refine o_appT (enc := eTHullHold) (s := 2) h (fun _ => rfl) ?_)
      refine st1 ?_
      obtain ⟨_, h, hF⟩ := e_bind hF
      (first | refine o_app (enc := eTHullSection) (s := 5) h (fun _ => rfl) ?_ | refine o_appT (enc := eTHullSection) (s := 5) h (fun _ => rfl) ?_)
      refine st1 ?_
      exact k_loopF (e_some hF) hx1 () [(0, _), (1, _), (5, _), (6, _)] ⟨sT, sS, by rfl, by rfl⟩
    · refine st1 ?_
      have hF := e_some hF
      have hq : some _ = some _ := hF
      cases hq
      exact en1


@[reducible] noncomputable def c_thalweglaw02_numbers : Con := conRL F_thalweglaw02_numbers (fun x => match x with | (a0) => [(V.sl (recs (eI .i64) (a0)) (a0).length)]) (fun r => (V.sl (recs (eI .i64) (r)) (r).length)) 3 1
@[reducible] noncomputable def c0_thalweglaw02_numbers : Con := conR F_thalweglaw02_numbers (fun x => match x with | (a0) => [(V.sl (recs (eI .i64) (a0)) (a0).length)]) (fun r => (V.sl (recs (eI .i64) (r)) (r).length)) 3 1
theorem h0_thalweglaw02_numbers : Has Try.prog 17 c0_thalweglaw02_numbers := by
  refine hasFR ctx_nil mix Try.func17 rfl (by kernel_rfl) ?_
  rintro a0 r hF
  refine ⟨of_decide_eq_true rfl, ?_⟩
  refine st1 ?_
  obtain ⟨_, h, hF⟩ := e_bind hF
  (first | refine o_app (enc := (eI .i64)) (s := 1) h (fun _ => rfl) ?_ | refine o_appT (enc := (eI .i64)) (s := 1) h (fun _ => rfl) ?_)
  refine st1 ?_
  have hq : some _ = some _ := hF
  cases hq
  exact en2

theorem h_thalweglaw02_numbers : Has Try.prog 17 c_thalweglaw02_numbers := has_lendF h0_thalweglaw02_numbers (fun r cs n h => by cases h; exact flat_recs (fun _ => rfl) _)


@[reducible] noncomputable def c_hull_Volume : Con := conF F_hull_Volume (fun x => match x with | (a0, a1) => [(V.agg (eTHull a0)), (V.v (.int .i64 (a1)))]) (fun r => V.tup [(V.v (.int .i64 (r.1))), (V.v (.int .i64 (r.2)))])
theorem h_hull_Volume : Has Try.prog 18 c_hull_Volume := by
  refine hasF (ctx_cons h_hull_ship_volume (ctx_cons h_hull_launch (ctx_cons h_numbers_Within ctx_nil))) mix Try.func18 rfl (by kernel_rfl) ?_
  rintro ⟨a0, a1⟩ r hF
  refine ⟨of_decide_eq_true rfl, ?_⟩
  refine st1 ?_
  obtain ⟨_, h, hF⟩ := e_bind hF
  (first | refine g_call h lv1 ?_ | refine g_callT h lv1 ?_)
  (conv => arg 1; whnf)
  refine st1 ?_
  rcases e_bif hF with ⟨hb1, hF⟩ | ⟨hb1, hF⟩ <;> (first | rw [hb1] | (conv => arg 7; rw [hb1]) | (conv => arg 9; rw [hb1]))
  · refine st1 ?_
    have hq : some _ = some _ := hF
    cases hq
    exact en1
  · refine st1 ?_
    obtain ⟨_, h, hF⟩ := e_bind hF
    (first | refine g_call h lv1 ?_ | refine g_callT h lv1 ?_)
    (conv => arg 1; whnf)
    refine st1 ?_
    rcases e_bif hF with ⟨hb2, hF⟩ | ⟨hb2, hF⟩ <;> (first | rw [hb2] | (conv => arg 7; rw [hb2]) | (conv => arg 9; rw [hb2]))
    · refine st1 ?_
      have hq : some _ = some _ := hF
      cases hq
      exact en1
    · refine st1 ?_
      obtain ⟨_, h, hF⟩ := e_bind hF
      (first | refine g_call h lv1 ?_ | refine g_callT h lv1 ?_)
      (conv => arg 1; whnf)
      refine st1 ?_
      have hq : some _ = some _ := hF
      cases hq
      exact en1


@[reducible] noncomputable def c_thalweglaw02_HullLeast : Con := conF F_thalweglaw02_HullLeast (fun x => match x with | (a0, a1, a2) => [(V.agg (eTthalweglaw02_Small a0)), (V.v (.int .u8 (a1))), (V.v (.int .u8 (a2)))]) (fun r => (V.v (.bool (r))))
theorem fl_thalweglaw02_HullLeast_47 : flatOf Try.prog 9 47 = some [true, true, true, true, true] := by kernel_rfl
theorem eg_thalweglaw02_HullLeast_47 : Try.prog.eqGuardType Try.prog.depth 47 = false := by kernel_rfl
theorem ag_thalweglaw02_HullLeast_47 : aggOf Try.prog 47 = some true := by kernel_rfl
theorem h_thalweglaw02_HullLeast : Has Try.prog 4 c_thalweglaw02_HullLeast := by
  refine hasF (ctx_cons h_hull_Volume (ctx_cons h_thalweglaw02_numbers (ctx_cons h_thalweglaw02_own (ctx_cons h_hull_Float (ctx_cons h_thalweglaw02_Small_density (ctx_cons h_thalweglaw02_Small_load (ctx_cons h_thalweglaw02_Small_hull (ctx_cons h_thalweglaw02_known ctx_nil)))))))) mix Try.func4 rfl (by kernel_rfl) ?_
  rintro ⟨a0, a1, a2⟩ r hF
  refine ⟨of_decide_eq_true rfl, ?_⟩
  refine st1 ?_
  obtain ⟨_, h, hF⟩ := e_bind hF
  (first | refine g_call h lv1 ?_ | refine g_callT h lv1 ?_)
  (conv => arg 1; whnf)
  refine st1 ?_
  obtain ⟨_, h, hF⟩ := e_bind hF
  (first | refine g_callR h lv1 ?_ | refine g_callRT h lv1 ?_)
  (conv => arg 1; whnf)
  refine st1 ?_
  obtain ⟨_, h, hF⟩ := e_bind hF
  (first | refine g_call h lv1 ?_ | refine g_callT h lv1 ?_)
  (conv => arg 1; whnf)
  refine st1 ?_
  obtain ⟨_, h, hF⟩ := e_bind hF
  (first | refine g_call h lv1 ?_ | refine g_callT h lv1 ?_)
  (conv => arg 1; whnf)
  refine st1 ?_
  obtain ⟨_, h, hF⟩ := e_bind hF
  (first | refine g_callRL h lv1 ?_ | refine g_callRLT h lv1 ?_ | (refine go_req (fz_len2 (by first | exact set_len (by assumption) | exact (set_len (by assumption)).trans (set_len (by assumption))) (by intro _; rfl)) ?_; (conv => arg 1; whnf); refine st1 ?_; refine g_callRL h lv1 ?_) | (refine goT_req (fz_len2 (by first | exact set_len (by assumption) | exact (set_len (by assumption)).trans (set_len (by assumption))) (by intro _; rfl)) ?_; (conv => arg 1; whnf); refine st1 ?_; refine g_callRLT h lv1 ?_))
  (conv => arg 1; whnf)
  refine st1 ?_
  obtain ⟨_, h, hF⟩ := e_bind hF
  (first | refine g_call h lv1 ?_ | refine g_callT h lv1 ?_)
  (conv => arg 1; whnf)
  refine st1 ?_
  rcases e_bif hF with ⟨hb1, hF⟩ | ⟨hb1, hF⟩ <;> (first | rw [hb1] | (conv => arg 7; rw [hb1]) | (conv => arg 9; rw [hb1]))
  · refine st1 ?_
    rcases e_bif hF with ⟨hb2, hF⟩ | ⟨hb2, hF⟩ <;> (first | rw [hb2] | (conv => arg 7; rw [hb2]) | (conv => arg 9; rw [hb2]))
    · refine st1 ?_
      rw [fl_thalweglaw02_HullLeast_47, eg_thalweglaw02_HullLeast_47, ag_thalweglaw02_HullLeast_47]
      (conv => arg 1; whnf)
      refine st1 ?_
      rcases e_bif hF with ⟨hb3, hF⟩ | ⟨hb3, hF⟩ <;> (first | rw [hb3] | (conv => arg 7; rw [hb3]) | (conv => arg 9; rw [hb3]))
      · refine st1 ?_
        obtain ⟨_, h, hF⟩ := e_bind hF
        (first | refine g_call h lv1 ?_ | refine g_callT h lv1 ?_)
        (conv => arg 1; whnf)
        refine st1 ?_
        have hq : some _ = some _ := hF
        cases hq
        exact en1
      · refine st1 ?_
        have hq : some _ = some _ := hF
        cases hq
        exact en1
    · refine st1 ?_
      have hq : some _ = some _ := hF
      cases hq
      exact en1
  · refine st1 ?_
    refine st_loopF (e_assoc hF) () [(4, _), (8, _), (11, _), (23, _)] ⟨sT, sS, by rfl, by rfl⟩ ?_
    · rintro n ⟨_, _⟩ _ x hx1 hF
      (conv => arg 7; whnf); (conv => arg 8; whnf); (conv => arg 9; whnf)
      refine st1 ?_
      rcases e_bif hF with ⟨hb6, hF⟩ | ⟨hb6, hF⟩ <;> (first | rw [hb6] | (conv => arg 7; rw [hb6]) | (conv => arg 9; rw [hb6]))
      · refine st1 ?_
        obtain ⟨_, h, hF⟩ := e_bind hF
        (first | refine o_ia (enc := eTHullSection) (s := 5) h (fun _ => rfl) (by decide) ?_ | refine o_iaT (enc := eTHullSection) (s := 5) h (fun _ => rfl) (by decide) ?_)
        intro _
        refine st1 ?_
        obtain ⟨_, hi15, hF⟩ := e_bind hF
        (first | refine go_req (oidx_ok hi15 (by decide)) ?_ | refine goT_req (oidx_ok hi15 (by decide)) ?_ | refine go_req (oidx_len hi15 (set_len (by assumption)) (by decide)) ?_ | refine goT_req (oidx_len hi15 (set_len (by assumption)) (by decide)) ?_)
        (conv => arg 1; whnf)
        refine st1 ?_
        (first | refine o_ldA (enc := (eI .i64)) (s := 1) hi15 (fun _ => rfl) (by decide) ?_ | refine o_ldB (enc := (eI .i64)) (s := 1) hi15 (fun _ => rfl) (by decide) ?_ | refine o_ldC (enc := (eI .i64)) (s := 1) hi15 (fun _ => rfl) (by decide) ?_ | refine o_ldD (enc := (eI .i64)) (s := 1) hi15 (fun _ => rfl) (by decide) ?_ | refine o_ldAT (enc := (eI .i64)) (s := 1) hi15 (fun _ => rfl) (by decide) ?_ | refine o_ldBT (enc := (eI .i64)) (s := 1) hi15 (fun _ => rfl) (by decide) ?_ | refine o_ldCT (enc := (eI .i64)) (s := 1) hi15 (fun _ => rfl) (by decide) ?_ | refine o_ldDT (enc := (eI .i64)) (s := 1) hi15 (fun _ => rfl) (by decide) ?_)
        (conv => arg 1; whnf)
        refine st1 ?_
        exact k_loopF (e_some hF) hx1 () [(4, _), (8, _), (11, _), (23, _)] ⟨sT, sS, by rfl, by rfl⟩
      · refine st1 ?_
        have hF := e_some hF
        refine st_loopF (e_assoc hF) () [(4, _), (8, _), (11, _), (23, _)] ⟨sT, sS, by rfl, by rfl⟩ ?_
        · rintro n _ _ x hx1 hF
          (conv => arg 7; whnf); (conv => arg 8; whnf); (conv => arg 9; whnf)
          refine st1 ?_
          rcases e_bif hF with ⟨hb31, hF⟩ | ⟨hb31, hF⟩ <;> (first | rw [hb31] | (conv => arg 7; rw [hb31]) | (conv => arg 9; rw [hb31]))
          · refine st1 ?_
            rcases e_bif hF with ⟨hb32, hF⟩ | ⟨hb32, hF⟩
            · skip
              (first | refine o_ib (eq_of_beq hb32) rfl ?_ | refine o_ibT (eq_of_beq hb32) rfl ?_ | refine o_ix (eq_of_beq hb32) rfl ?_ | refine o_ixT (eq_of_beq hb32) rfl ?_)
              (conv => arg 1; whnf)
              refine st1 ?_
              (first | refine o_ib (eq_of_beq hb32) rfl ?_ | refine o_ibT (eq_of_beq hb32) rfl ?_ | refine o_ix (eq_of_beq hb32) rfl ?_ | refine o_ixT (eq_of_beq hb32) rfl ?_)
              (conv => arg 1; whnf)
              refine st1 ?_
              obtain ⟨_, h, hF⟩ := e_bind hF
              (first | refine g_call h lv1 ?_ | refine g_callT h lv1 ?_)
              (conv => arg 1; whnf)
              refine st1 ?_
              obtain ⟨_, h, hF⟩ := e_bind hF
              (first | refine g_call h lv1 ?_ | refine g_callT h lv1 ?_)
              (conv => arg 1; whnf)
              refine st1 ?_
              rcases e_bif hF with ⟨hb33, hF⟩ | ⟨hb33, hF⟩ <;> (first | rw [hb33] | (conv => arg 7; rw [hb33]) | (conv => arg 9; rw [hb33]))
              · refine st1 ?_
                have hF := e_some hF
                have hq : some _ = some _ := hF
                cases hq
                exact en1
              · refine st1 ?_
                rcases e_bif hF with ⟨hb34, hF⟩ | ⟨hb34, hF⟩ <;> (first | rw [hb34] | (conv => arg 7; rw [hb34]) | (conv => arg 9; rw [hb34]))
                · refine st1 ?_
                  have hF := e_some hF
                  have hq : some _ = some _ := hF
                  cases hq
                  exact en1
                · refine st1 ?_
                  rcases e_bif hF with ⟨hb35, hF⟩ | ⟨hb35, hF⟩ <;> (first | rw [hb35] | (conv => arg 7; rw [hb35]) | (conv => arg 9; rw [hb35]))
                  · refine st1 ?_
                    have hF := e_some hF
                    have hq : some _ = some _ := hF
                    cases hq
                    exact en1
                  · refine st1 ?_
                    rcases e_bif hF with ⟨hb36, hF⟩ | ⟨hb36, hF⟩ <;> (first | rw [hb36] | (conv => arg 7; rw [hb36]) | (conv => arg 9; rw [hb36]))
                    · refine st1 ?_
                      obtain ⟨_, h, hF⟩ := e_bind hF
                      (first | refine g_call h lv1 ?_ | refine g_callT h lv1 ?_)
                      (conv => arg 1; whnf)
                      refine st1 ?_
                      obtain ⟨_, h, hF⟩ := e_bind hF
                      (first | refine g_call h lv1 ?_ | refine g_callT h lv1 ?_)
                      (conv => arg 1; whnf)
                      refine st1 ?_
                      rcases e_bif hF with ⟨hb37, hF⟩ | ⟨hb37, hF⟩ <;> (first | rw [hb37] | (conv => arg 7; rw [hb37]) | (conv => arg 9; rw [hb37]))
                      · refine st1 ?_
                        have hF := e_some hF
                        have hq : some _ = some _ := hF
                        cases hq
                        exact en1
                      · refine st1 ?_
                        rcases e_bif hF with ⟨hb38, hF⟩ | ⟨hb38, hF⟩ <;> (first | rw [hb38] | (conv => arg 7; rw [hb38]) | (conv => arg 9; rw [hb38]))
                        · refine st1 ?_
                          have hF := e_some hF
                          have hq : some _ = some _ := hF
                          cases hq
                          exact en1
                        · refine st1 ?_
                          rcases e_bif hF with ⟨hb39, hF⟩ | ⟨hb39, hF⟩ <;> (first | rw [hb39] | (conv => arg 7; rw [hb39]) | (conv => arg 9; rw [hb39]))
                          · refine st1 ?_
                            have hF := e_some hF
                            have hq : some _ = some _ := hF
                            cases hq
                            exact en1
                          · refine st1 ?_
                            exact k_loopF (e_some hF) hx1 () [(4, _), (8, _), (11, _), (23, _)] ⟨sT, sS, by rfl, by rfl⟩
                    · refine st1 ?_
                      exact k_loopF (e_some hF) hx1 () [(4, _), (8, _), (11, _), (23, _)] ⟨sT, sS, by rfl, by rfl⟩
            · skip
              rcases e_bif hF with ⟨hb40, hF⟩ | ⟨hb40, hF⟩
              · skip
                (first | refine o_ib (eq_of_beq hb40) rfl ?_ | refine o_ibT (eq_of_beq hb40) rfl ?_ | refine o_ix (eq_of_beq hb40) rfl ?_ | refine o_ixT (eq_of_beq hb40) rfl ?_)
                (conv => arg 1; whnf)
                refine st1 ?_
                (first | refine o_ib (eq_of_beq hb40) rfl ?_ | refine o_ibT (eq_of_beq hb40) rfl ?_ | refine o_ix (eq_of_beq hb40) rfl ?_ | refine o_ixT (eq_of_beq hb40) rfl ?_)
                (conv => arg 1; whnf)
                refine st1 ?_
                obtain ⟨_, h, hF⟩ := e_bind hF
                (first | refine g_call h lv1 ?_ | refine g_callT h lv1 ?_)
                (conv => arg 1; whnf)
                refine st1 ?_
                obtain ⟨_, h, hF⟩ := e_bind hF
                (first | refine g_call h lv1 ?_ | refine g_callT h lv1 ?_)
                (conv => arg 1; whnf)
                refine st1 ?_
                rcases e_bif hF with ⟨hb41, hF⟩ | ⟨hb41, hF⟩ <;> (first | rw [hb41] | (conv => arg 7; rw [hb41]) | (conv => arg 9; rw [hb41]))
                · refine st1 ?_
                  have hF := e_some hF
                  have hq : some _ = some _ := hF
                  cases hq
                  exact en1
                · refine st1 ?_
                  rcases e_bif hF with ⟨hb42, hF⟩ | ⟨hb42, hF⟩ <;> (first | rw [hb42] | (conv => arg 7; rw [hb42]) | (conv => arg 9; rw [hb42]))
                  · refine st1 ?_
                    have hF := e_some hF
                    have hq : some _ = some _ := hF
                    cases hq
                    exact en1
                  · refine st1 ?_
                    rcases e_bif hF with ⟨hb43, hF⟩ | ⟨hb43, hF⟩ <;> (first | rw [hb43] | (conv => arg 7; rw [hb43]) | (conv => arg 9; rw [hb43]))
                    · refine st1 ?_
                      have hF := e_some hF
                      have hq : some _ = some _ := hF
                      cases hq
                      exact en1
                    · refine st1 ?_
                      rcases e_bif hF with ⟨hb44, hF⟩ | ⟨hb44, hF⟩ <;> (first | rw [hb44] | (conv => arg 7; rw [hb44]) | (conv => arg 9; rw [hb44]))
                      · refine st1 ?_
                        obtain ⟨_, h, hF⟩ := e_bind hF
                        (first | refine g_call h lv1 ?_ | refine g_callT h lv1 ?_)
                        (conv => arg 1; whnf)
                        refine st1 ?_
                        obtain ⟨_, h, hF⟩ := e_bind hF
                        (first | refine g_call h lv1 ?_ | refine g_callT h lv1 ?_)
                        (conv => arg 1; whnf)
                        refine st1 ?_
                        rcases e_bif hF with ⟨hb45, hF⟩ | ⟨hb45, hF⟩ <;> (first | rw [hb45] | (conv => arg 7; rw [hb45]) | (conv => arg 9; rw [hb45]))
                        · refine st1 ?_
                          have hF := e_some hF
                          have hq : some _ = some _ := hF
                          cases hq
                          exact en1
                        · refine st1 ?_
                          rcases e_bif hF with ⟨hb46, hF⟩ | ⟨hb46, hF⟩ <;> (first | rw [hb46] | (conv => arg 7; rw [hb46]) | (conv => arg 9; rw [hb46]))
                          · refine st1 ?_
                            have hF := e_some hF
                            have hq : some _ = some _ := hF
                            cases hq
                            exact en1
                          · refine st1 ?_
                            rcases e_bif hF with ⟨hb47, hF⟩ | ⟨hb47, hF⟩ <;> (first | rw [hb47] | (conv => arg 7; rw [hb47]) | (conv => arg 9; rw [hb47]))
                            · refine st1 ?_
                              have hF := e_some hF
                              have hq : some _ = some _ := hF
                              cases hq
                              exact en1
                            · refine st1 ?_
                              exact k_loopF (e_some hF) hx1 () [(4, _), (8, _), (11, _), (23, _)] ⟨sT, sS, by rfl, by rfl⟩
                      · refine st1 ?_
                        exact k_loopF (e_some hF) hx1 () [(4, _), (8, _), (11, _), (23, _)] ⟨sT, sS, by rfl, by rfl⟩
              · skip
                (first | cases hF | simp at hF)
          · refine st1 ?_
            have hF := e_some hF
            rcases e_bif hF with ⟨hb48, hF⟩ | ⟨hb48, hF⟩ <;> (first | rw [hb48] | (conv => arg 7; rw [hb48]) | (conv => arg 9; rw [hb48]))
            · refine st1 ?_
              have hq : some _ = some _ := hF
              cases hq
              exact en1
            · refine st1 ?_
              rcases e_bif hF with ⟨hb49, hF⟩ | ⟨hb49, hF⟩ <;> (first | rw [hb49] | (conv => arg 7; rw [hb49]) | (conv => arg 9; rw [hb49]))
              · refine st1 ?_
                have hq : some _ = some _ := hF
                cases hq
                exact en1
              · refine st1 ?_
                rcases e_bif hF with ⟨hb50, hF⟩ | ⟨hb50, hF⟩ <;> (first | rw [hb50] | (conv => arg 7; rw [hb50]) | (conv => arg 9; rw [hb50]))
                · refine st1 ?_
                  have hq : some _ = some _ := hF
                  cases hq
                  exact en1
                · refine st1 ?_
                  obtain ⟨_, h, hF⟩ := e_bind hF
                  (first | refine g_call h lv1 ?_ | refine g_callT h lv1 ?_)
                  (conv => arg 1; whnf)
                  refine st1 ?_
                  obtain ⟨_, h, hF⟩ := e_bind hF
                  (first | refine g_callRL h lv1 ?_ | refine g_callRLT h lv1 ?_ | (refine go_req (fz_len2 (by first | exact set_len (by assumption) | exact (set_len (by assumption)).trans (set_len (by assumption))) (by intro _; rfl)) ?_; (conv => arg 1; whnf); refine st1 ?_; refine g_callRL h lv1 ?_) | (refine goT_req (fz_len2 (by first | exact set_len (by assumption) | exact (set_len (by assumption)).trans (set_len (by assumption))) (by intro _; rfl)) ?_; (conv => arg 1; whnf); refine st1 ?_; refine g_callRLT h lv1 ?_))
                  (conv => arg 1; whnf)
                  refine st1 ?_
                  obtain ⟨_, h, hF⟩ := e_bind hF
                  (first | refine g_call h lv1 ?_ | refine g_callT h lv1 ?_)
                  (conv => arg 1; whnf)
                  refine st1 ?_
                  rcases e_bif hF with ⟨hb51, hF⟩ | ⟨hb51, hF⟩ <;> (first | rw [hb51] | (conv => arg 7; rw [hb51]) | (conv => arg 9; rw [hb51]))
                  · refine st1 ?_
                    have hq : some _ = some _ := hF
                    cases hq
                    exact en1
                  · refine st1 ?_
                    rcases e_bif hF with ⟨hb52, hF⟩ | ⟨hb52, hF⟩ <;> (first | rw [hb52] | (conv => arg 7; rw [hb52]) | (conv => arg 9; rw [hb52]))
                    · refine st1 ?_
                      have hq : some _ = some _ := hF
                      cases hq
                      exact en1
                    · refine st1 ?_
                      rcases e_bif hF with ⟨hb53, hF⟩ | ⟨hb53, hF⟩ <;> (first | rw [hb53] | (conv => arg 7; rw [hb53]) | (conv => arg 9; rw [hb53]))
                      · refine st1 ?_
                        have hq : some _ = some _ := hF
                        cases hq
                        exact en1
                      · refine st1 ?_
                        rcases e_bif hF with ⟨hb54, hF⟩ | ⟨hb54, hF⟩ <;> (first | rw [hb54] | (conv => arg 7; rw [hb54]) | (conv => arg 9; rw [hb54]))
                        · refine st1 ?_
                          have hq : some _ = some _ := hF
                          cases hq
                          exact en1
                        · refine st1 ?_
                          obtain ⟨_, h, hF⟩ := e_bind hF
                          (first | refine go_req (nz_ne h) ?_ | refine goT_req (nz_ne h) ?_)
                          (conv => arg 1; whnf)
                          refine st1 ?_
                          obtain ⟨_, hi38, hF⟩ := e_bind hF
                          (first | refine go_req (oidx_ok hi38 (by decide)) ?_ | refine goT_req (oidx_ok hi38 (by decide)) ?_ | refine go_req (oidx_len hi38 (set_len (by assumption)) (by decide)) ?_ | refine goT_req (oidx_len hi38 (set_len (by assumption)) (by decide)) ?_)
                          (conv => arg 1; whnf)
                          refine st1 ?_
                          (first | refine o_ldA (enc := (eI .i64)) (s := 1) hi38 (fun _ => rfl) (by decide) ?_ | refine o_ldB (enc := (eI .i64)) (s := 1) hi38 (fun _ => rfl) (by decide) ?_ | refine o_ldC (enc := (eI .i64)) (s := 1) hi38 (fun _ => rfl) (by decide) ?_ | refine o_ldD (enc := (eI .i64)) (s := 1) hi38 (fun _ => rfl) (by decide) ?_ | refine o_ldAT (enc := (eI .i64)) (s := 1) hi38 (fun _ => rfl) (by decide) ?_ | refine o_ldBT (enc := (eI .i64)) (s := 1) hi38 (fun _ => rfl) (by decide) ?_ | refine o_ldCT (enc := (eI .i64)) (s := 1) hi38 (fun _ => rfl) (by decide) ?_ | refine o_ldDT (enc := (eI .i64)) (s := 1) hi38 (fun _ => rfl) (by decide) ?_)
                          (conv => arg 1; whnf)
                          refine st1 ?_
                          obtain ⟨_, h, hF⟩ := e_bind hF
                          (first | refine o_ia (enc := eTHullSection) (s := 5) h (fun _ => rfl) (by decide) ?_ | refine o_iaT (enc := eTHullSection) (s := 5) h (fun _ => rfl) (by decide) ?_)
                          intro _
                          refine st1 ?_
                          obtain ⟨_, h, hF⟩ := e_bind hF
                          (first | refine o_ia (enc := eTHullHold) (s := 2) h (fun _ => rfl) (by decide) ?_ | refine o_iaT (enc := eTHullHold) (s := 2) h (fun _ => rfl) (by decide) ?_)
                          intro _
                          refine st1 ?_
                          rcases e_bif hF with ⟨hb55, hF⟩ | ⟨hb55, hF⟩ <;> (first | rw [hb55] | (conv => arg 7; rw [hb55]) | (conv => arg 9; rw [hb55]))
                          · refine st1 ?_
                            obtain ⟨_, hi42, hF⟩ := e_bind hF
                            (first | refine go_req (oidx_ok hi42 (by decide)) ?_ | refine goT_req (oidx_ok hi42 (by decide)) ?_ | refine go_req (oidx_len hi42 (set_len (by assumption)) (by decide)) ?_ | refine goT_req (oidx_len hi42 (set_len (by assumption)) (by decide)) ?_)
                            (conv => arg 1; whnf)
                            refine st1 ?_
                            (first | refine o_ldA (enc := (eI .i64)) (s := 1) hi42 (fun _ => rfl) (by decide) ?_ | refine o_ldB (enc := (eI .i64)) (s := 1) hi42 (fun _ => rfl) (by decide) ?_ | refine o_ldC (enc := (eI .i64)) (s := 1) hi42 (fun _ => rfl) (by decide) ?_ | refine o_ldD (enc := (eI .i64)) (s := 1) hi42 (fun _ => rfl) (by decide) ?_ | refine o_ldAT (enc := (eI .i64)) (s := 1) hi42 (fun _ => rfl) (by decide) ?_ | refine o_ldBT (enc := (eI .i64)) (s := 1) hi42 (fun _ => rfl) (by decide) ?_ | refine o_ldCT (enc := (eI .i64)) (s := 1) hi42 (fun _ => rfl) (by decide) ?_ | refine o_ldDT (enc := (eI .i64)) (s := 1) hi42 (fun _ => rfl) (by decide) ?_)
                            (conv => arg 1; whnf)
                            refine st1 ?_
                            obtain ⟨_, hi44, hF⟩ := e_bind hF
                            (first | refine go_req (oidx_ok hi44 (by decide)) ?_ | refine goT_req (oidx_ok hi44 (by decide)) ?_ | refine go_req (oidx_len hi44 (set_len (by assumption)) (by decide)) ?_ | refine goT_req (oidx_len hi44 (set_len (by assumption)) (by decide)) ?_)
                            (conv => arg 1; whnf)
                            refine st1 ?_
                            obtain ⟨_, h, hF⟩ := e_bind hF
                            (first | refine o_stA (enc := (eI .i64)) (s := 1) hi44 h (fun _ => rfl) (by decide) rfl rfl ?_ | refine o_stB (enc := (eI .i64)) (s := 1) hi44 h (fun _ => rfl) (by decide) rfl rfl ?_ | refine o_stAT (enc := (eI .i64)) (s := 1) hi44 h (fun _ => rfl) (by decide) rfl rfl ?_ | refine o_stBT (enc := (eI .i64)) (s := 1) hi44 h (fun _ => rfl) (by decide) rfl rfl ?_ | refine o_stC (enc := (eI .i64)) (s := 1) hi44 h (fun _ => rfl) (by decide) rfl rfl ?_ | refine o_stCT (enc := (eI .i64)) (s := 1) hi44 h (fun _ => rfl) (by decide) rfl rfl ?_)
                            refine st1 ?_
                            obtain ⟨_, h, hF⟩ := e_bind hF
                            (first | refine g_call h lv1 ?_ | refine g_callT h lv1 ?_)
                            (conv => arg 1; whnf)
                            refine st1 ?_
                            obtain ⟨_, h, hF⟩ := e_bind hF
                            (first | refine g_callRL h lv1 ?_ | refine g_callRLT h lv1 ?_ | (refine go_req (fz_len2 (by first | exact set_len (by assumption) | exact (set_len (by assumption)).trans (set_len (by assumption))) (by intro _; rfl)) ?_; (conv => arg 1; whnf); refine st1 ?_; refine g_callRL h lv1 ?_) | (refine goT_req (fz_len2 (by first | exact set_len (by assumption) | exact (set_len (by assumption)).trans (set_len (by assumption))) (by intro _; rfl)) ?_; (conv => arg 1; whnf); refine st1 ?_; refine g_callRLT h lv1 ?_))
                            (conv => arg 1; whnf)
                            refine st1 ?_
                            obtain ⟨_, h, hF⟩ := e_bind hF
                            (first | refine g_call h lv1 ?_ | refine g_callT h lv1 ?_)
                            (conv => arg 1; whnf)
                            refine st1 ?_
                            rcases e_bif hF with ⟨hb56, hF⟩ | ⟨hb56, hF⟩ <;> (first | rw [hb56] | (conv => arg 7; rw [hb56]) | (conv => arg 9; rw [hb56]))
                            · refine st1 ?_
                              rcases e_bif hF with ⟨hb57, hF⟩ | ⟨hb57, hF⟩ <;> (first | rw [hb57] | (conv => arg 7; rw [hb57]) | (conv => arg 9; rw [hb57]))
                              · refine st1 ?_
                                have hq : some _ = some _ := hF
                                cases hq
                                exact en1
                              · refine st1 ?_
                                rcases e_bif hF with ⟨hb58, hF⟩ | ⟨hb58, hF⟩ <;> (first | rw [hb58] | (conv => arg 7; rw [hb58]) | (conv => arg 9; rw [hb58]))
                                · refine st1 ?_
                                  have hq : some _ = some _ := hF
                                  cases hq
                                  exact en1
                                · refine st1 ?_
                                  rcases e_bif hF with ⟨hb59, hF⟩ | ⟨hb59, hF⟩ <;> (first | rw [hb59] | (conv => arg 7; rw [hb59]) | (conv => arg 9; rw [hb59]))
                                  · refine st1 ?_
                                    rcases e_bif hF with ⟨hb60, hF⟩ | ⟨hb60, hF⟩ <;> (first | rw [hb60] | (conv => arg 7; rw [hb60]) | (conv => arg 9; rw [hb60]))
                                    · refine st1 ?_
                                      have hq : some _ = some _ := hF
                                      cases hq
                                      exact en1
                                    · refine st1 ?_
                                      obtain ⟨_, h, hF⟩ := e_bind hF
                                      (first | refine g_call h lv1 ?_ | refine g_callT h lv1 ?_)
                                      (conv => arg 1; whnf)
                                      refine st1 ?_
                                      have hq : some _ = some _ := hF
                                      cases hq
                                      exact en1
                                  · refine st1 ?_
                                    obtain ⟨_, h, hF⟩ := e_bind hF
                                    (first | refine g_call h lv1 ?_ | refine g_callT h lv1 ?_)
                                    (conv => arg 1; whnf)
                                    refine st1 ?_
                                    have hq : some _ = some _ := hF
                                    cases hq
                                    exact en1
                            · refine st1 ?_
                              rcases e_bif hF with ⟨hb61, hF⟩ | ⟨hb61, hF⟩ <;> (first | rw [hb61] | (conv => arg 7; rw [hb61]) | (conv => arg 9; rw [hb61]))
                              · refine st1 ?_
                                rcases e_bif hF with ⟨hb62, hF⟩ | ⟨hb62, hF⟩ <;> (first | rw [hb62] | (conv => arg 7; rw [hb62]) | (conv => arg 9; rw [hb62]))
                                · refine st1 ?_
                                  have hq : some _ = some _ := hF
                                  cases hq
                                  exact en1
                                · refine st1 ?_
                                  obtain ⟨_, h, hF⟩ := e_bind hF
                                  (first | refine g_call h lv1 ?_ | refine g_callT h lv1 ?_)
                                  (conv => arg 1; whnf)
                                  refine st1 ?_
                                  have hq : some _ = some _ := hF
                                  cases hq
                                  exact en1
                              · refine st1 ?_
                                obtain ⟨_, h, hF⟩ := e_bind hF
                                (first | refine g_call h lv1 ?_ | refine g_callT h lv1 ?_)
                                (conv => arg 1; whnf)
                                refine st1 ?_
                                have hq : some _ = some _ := hF
                                cases hq
                                exact en1
                          · refine st1 ?_
                            obtain ⟨_, h, hF⟩ := e_bind hF
                            (first | refine g_call h lv1 ?_ | refine g_callT h lv1 ?_)
                            (conv => arg 1; whnf)
                            refine st1 ?_
                            have hq : some _ = some _ := hF
                            cases hq
                            exact en1

end Go.Ev
