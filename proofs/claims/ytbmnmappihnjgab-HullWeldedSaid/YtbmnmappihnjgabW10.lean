/- A part of the proof of HullWelded. -/
import Derived.Test.YtbmnmappihnjgabW9
/- The functions do what is said. -/
set_option linter.unusedVariables false
set_option linter.unusedSimpArgs false
namespace Go.Ev
open Go.Proofs
set_option maxHeartbeats 8000000
set_option maxRecDepth 100000
@[reducible] noncomputable def c0_slices_Clone_L_HullRow_HullRow : Con := conR F_slices_Clone_L_HullRow_HullRow (fun l => [.sl (recs eTHullRow l) l.length]) (fun r => V.sl (recs eTHullRow r) r.length) 113 2
@[reducible] noncomputable def c_slices_Clone_L_HullRow_HullRow : Con := conF F_slices_Clone_L_HullRow_HullRow (fun l => [.sl (recs eTHullRow l) l.length]) (fun r => V.sl (recs eTHullRow r) r.length)
theorem h0_slices_Clone_L_HullRow_HullRow : Has Try.prog 73 c0_slices_Clone_L_HullRow_HullRow := by
  refine fresh_split (enc := eTHullRow) ctx_nil mix Try.func73 rfl (by kernel_rfl) ?_ ?_ ?_
  · intro y l r hF
    refine ⟨of_decide_eq_true rfl, ?_⟩
    refine st1 ?_
    obtain ⟨_, h, hF⟩ := e_bind hF
    (first | refine o_app (enc := eTHullRow) (s := 2) h (fun _ => rfl) ?_ | refine o_appT (enc := eTHullRow) (s := 2) h (fun _ => rfl) ?_)
    refine st1 ?_
    have hq : some _ = some _ := hF
    cases hq
    exact en2
  · intro a cap
    refine ⟨of_decide_eq_true rfl, ?_⟩
    cases a with
    | none => cases cap <;> (refine st1 ?_; exact en2)
    | some ad => refine st1 ?_; conv => whnf
                 exact Or.inl ⟨_, _, _, rfl, rfl, rfl, rfl⟩
  · intro r h
    have h0 : app? ([] : List THullRow) [] 16 = some [] := app_nil (by decide) (by decide)
    simp only [F_slices_Clone_L_HullRow_HullRow, h0, Option.bind_some] at h
    cases h; rfl

theorem h_slices_Clone_L_HullRow_HullRow : Has Try.prog 73 c_slices_Clone_L_HullRow_HullRow := has_keep h0_slices_Clone_L_HullRow_HullRow (fun r => ⟨_, _, rfl, (recs_length (enc := eTHullRow) (s := 2) (fun _ => rfl) r).symm⟩)


@[reducible] noncomputable def c0_slices_Clone_L_HullHold_HullHold : Con := conR F_slices_Clone_L_HullHold_HullHold (fun l => [.sl (recs eTHullHold l) l.length]) (fun r => V.sl (recs eTHullHold r) r.length) 60 2
@[reducible] noncomputable def c_slices_Clone_L_HullHold_HullHold : Con := conF F_slices_Clone_L_HullHold_HullHold (fun l => [.sl (recs eTHullHold l) l.length]) (fun r => V.sl (recs eTHullHold r) r.length)
theorem h0_slices_Clone_L_HullHold_HullHold : Has Try.prog 74 c0_slices_Clone_L_HullHold_HullHold := by
  refine fresh_split (enc := eTHullHold) ctx_nil mix Try.func74 rfl (by kernel_rfl) ?_ ?_ ?_
  · intro y l r hF
    refine ⟨of_decide_eq_true rfl, ?_⟩
    refine st1 ?_
    obtain ⟨_, h, hF⟩ := e_bind hF
    (first | refine o_app (enc := eTHullHold) (s := 2) h (fun _ => rfl) ?_ | refine o_appT (enc := eTHullHold) (s := 2) h (fun _ => rfl) ?_)
    refine st1 ?_
    have hq : some _ = some _ := hF
    cases hq
    exact en2
  · intro a cap
    refine ⟨of_decide_eq_true rfl, ?_⟩
    cases a with
    | none => cases cap <;> (refine st1 ?_; exact en2)
    | some ad => refine st1 ?_; conv => whnf
                 exact Or.inl ⟨_, _, _, rfl, rfl, rfl, rfl⟩
  · intro r h
    have h0 : app? ([] : List THullHold) [] 16 = some [] := app_nil (by decide) (by decide)
    simp only [F_slices_Clone_L_HullHold_HullHold, h0, Option.bind_some] at h
    cases h; rfl

theorem h_slices_Clone_L_HullHold_HullHold : Has Try.prog 74 c_slices_Clone_L_HullHold_HullHold := has_keep h0_slices_Clone_L_HullHold_HullHold (fun r => ⟨_, _, rfl, (recs_length (enc := eTHullHold) (s := 2) (fun _ => rfl) r).symm⟩)


@[reducible] noncomputable def c_hull_build : Con := conF F_hull_build (fun x => match x with | (a0, a1) => [(V.v (.int .i64 (a0))), (V.sl (recs eTHullSection (a1)) (a1).length)]) (fun r => (V.agg (eTHull r)))
theorem h_hull_build : Has Try.prog 44 c_hull_build := by
  refine hasF (ctx_cons h_slices_Clone_L_HullHold_HullHold (ctx_cons h_slices_Clone_L_HullRow_HullRow ctx_nil)) mix Try.func44 rfl (by kernel_rfl) ?_
  rintro ⟨a0, a1⟩ r hF
  refine ⟨of_decide_eq_true rfl, ?_⟩
  refine st1 ?_
  refine st_loopF (e_assoc hF) () [(0, _), (3, _)] ⟨sT, sS, by rfl, by rfl⟩ ?_
  · rintro n ⟨_, _⟩ _ x hx1 hF
    (conv => arg 7; whnf); (conv => arg 8; whnf); (conv => arg 9; whnf)
    refine st1 ?_
    rcases e_bif hF with ⟨hb4, hF⟩ | ⟨hb4, hF⟩ <;> (first | rw [hb4] | (conv => arg 7; rw [hb4]) | (conv => arg 9; rw [hb4]))
    · refine st1 ?_
      obtain ⟨_, h, hF⟩ := e_bind hF
      (first | refine o_ia (enc := eTHullSection) (s := 5) h (fun _ => rfl) (by decide) ?_ | refine o_iaT (enc := eTHullSection) (s := 5) h (fun _ => rfl) (by decide) ?_)
      intro _
      refine st1 ?_
      obtain ⟨_, h, hF⟩ := e_bind hF
      (first | refine g_call h lv1 ?_ | refine g_callT h lv1 ?_)
      (conv => arg 1; whnf)
      refine st1 ?_
      obtain ⟨_, h, hF⟩ := e_bind hF
      (first | refine g_call h lv1 ?_ | refine g_callT h lv1 ?_)
      (conv => arg 1; whnf)
      refine st1 ?_
      obtain ⟨_, h, hF⟩ := e_bind hF
      (first | refine o_app (enc := eTHullSection) (s := 5) h (fun _ => rfl) ?_ | refine o_appT (enc := eTHullSection) (s := 5) h (fun _ => rfl) ?_)
      refine st1 ?_
      exact k_loopF (e_some hF) hx1 () [(0, _), (3, _), (4, _)] ⟨sT, sS, by rfl, by rfl⟩
    · refine st1 ?_
      have hF := e_some hF
      have hq : some _ = some _ := hF
      cases hq
      exact en1


@[reducible] noncomputable def c0_slices_Grow_L_HullSection_HullSection : Con := conR F_slices_Grow_L_HullSection_HullSection (fun x => match x with | (l, n) => [.v (.slice none 0 0), .v (.int .i64 n)]) (fun r => V.sl (recs eTHullSection r) r.length) 55 5
@[reducible] noncomputable def c_slices_Grow_L_HullSection_HullSection : Con := conR F_slices_Grow_L_HullSection_HullSection (fun x => match x with | (l, n) => [.v (.slice none 0 0), .v (.int .i64 n)]) (fun r => V.sl (recs eTHullSection r) r.length) 55 5
theorem h0_slices_Grow_L_HullSection_HullSection : Has Try.prog 75 c0_slices_Grow_L_HullSection_HullSection := by
  refine hasIR (G := xg []) ctx_nil gok_nil mix 12 Try.func75 rfl (by kernel_rfl) ?_
  rintro ⟨l, n⟩ r hF
  have hF : (if l.length = 0 ∧ 0 ≤ n ∧ n * 72 ≤ 140737488355328 then some ([] : List THullSection) else none).bind some = some r := hF
  split at hF
  · next hc =>
    have hq : some _ = some _ := hF
    cases hq
    obtain ⟨m, rfl⟩ := Int.eq_ofNat_of_zero_le hc.2.1
    refine ⟨rfl, ?_⟩
    refine sw1 ?_
    rw [show IntKind.i64.wrap ((m : Int) - IntKind.i64.wrap (0 - 0)) = (m : Int) from by rw [show IntKind.i64.wrap (0 - 0) = 0 from rfl]; exact wr_in (n := (m : Int) - 0) (by omega) (by omega) |>.trans (by omega)]
    cases m with
    | zero =>
      refine sw1 ?_
      exact Or.inr ⟨rfl, rfl⟩
    | succ m =>
      rw [show decide ((((m + 1 : Nat) : Int)) > 0) = true from decide_eq_true (by omega)]
      refine sw1 ?_
      refine go_req ⟨by omega, by have : maxLen = 9223372036854775807 := rfl; omega, (by show (m + 1) * 72 ≤ 140737488355328; omega), by decide⟩ ?_
      refine sw1 ?_
      exact Or.inl ⟨_, _, _, rfl, rfl, rfl, rfl⟩
  · cases hF

theorem h_slices_Grow_L_HullSection_HullSection : Has Try.prog 75 c_slices_Grow_L_HullSection_HullSection := h0_slices_Grow_L_HullSection_HullSection


@[reducible] noncomputable def c_slices_Concat_L_HullSection_HullSection : Con := conF F_slices_Concat_L_HullSection_HullSection (fun x => match x with | (a0) => [(V.sl (recs (eS eTHullSection) (a0)) (a0).length)]) (fun r => (V.sl (recs eTHullSection (r)) (r).length))
theorem h_slices_Concat_L_HullSection_HullSection : Has Try.prog 45 c_slices_Concat_L_HullSection_HullSection := by
  refine hasF (ctx_cons h_slices_Grow_L_HullSection_HullSection ctx_nil) mix Try.func45 rfl (by kernel_rfl) ?_
  rintro a0 r hF
  refine ⟨of_decide_eq_true rfl, ?_⟩
  refine st1 ?_
  refine st_loopF (e_assoc hF) () [] ⟨sT, sS, by rfl, by rfl⟩ ?_
  · rintro n ⟨_, _⟩ _ x hx1 hF
    (conv => arg 7; whnf); (conv => arg 8; whnf); (conv => arg 9; whnf)
    refine st1 ?_
    rcases e_bif hF with ⟨hb5, hF⟩ | ⟨hb5, hF⟩ <;> (first | rw [hb5] | (conv => arg 7; rw [hb5]) | (conv => arg 9; rw [hb5]))
    · refine st1 ?_
      obtain ⟨_, h, hF⟩ := e_bind hF
      (first | refine o_ia (enc := (eS eTHullSection)) (s := 1) h (fun _ => rfl) (by decide) ?_ | refine o_iaT (enc := (eS eTHullSection)) (s := 1) h (fun _ => rfl) (by decide) ?_)
      intro _
      refine st1 ?_
      rcases e_bif hF with ⟨hb6, hF⟩ | ⟨hb6, hF⟩ <;> (first | rw [hb6] | (conv => arg 7; rw [hb6]) | (conv => arg 9; rw [hb6]))
      · refine st1 ?_
        (first | cases hF | simp at hF)
      · refine st1 ?_
        exact k_loopF (e_some hF) hx1 () [] ⟨sT, sS, by rfl, by rfl⟩
    · refine st1 ?_
      have hF := e_some hF
      obtain ⟨_, h, hF⟩ := e_bind hF
      (first | refine g_callR h lv1 ?_ | refine g_callRT h lv1 ?_)
      (conv => arg 1; whnf)
      refine st1 ?_
      refine st_loopF (e_assoc hF) () [(2, _)] ⟨sT, sS, by rfl, by rfl⟩ ?_
      · rintro n ⟨_, _⟩ _ x hx1 hF
        (conv => arg 7; whnf); (conv => arg 8; whnf); (conv => arg 9; whnf)
        refine st1 ?_
        rcases e_bif hF with ⟨hb9, hF⟩ | ⟨hb9, hF⟩ <;> (first | rw [hb9] | (conv => arg 7; rw [hb9]) | (conv => arg 9; rw [hb9]))
        · refine st1 ?_
          obtain ⟨_, h, hF⟩ := e_bind hF
          (first | refine o_ia (enc := (eS eTHullSection)) (s := 1) h (fun _ => rfl) (by decide) ?_ | refine o_iaT (enc := (eS eTHullSection)) (s := 1) h (fun _ => rfl) (by decide) ?_)
          intro _
          refine st1 ?_
          obtain ⟨_, h, hF⟩ := e_bind hF
          (first | refine o_app (enc := eTHullSection) (s := 5) h (fun _ => rfl) ?_ | refine o_appT (enc := eTHullSection) (s := 5) h (fun _ => rfl) ?_)
          refine st1 ?_
          exact k_loopF (e_some hF) hx1 () [(2, _)] ⟨sT, sS, by rfl, by rfl⟩
        · refine st1 ?_
          have hF := e_some hF
          have hq : some _ = some _ := hF
          cases hq
          exact en1


@[reducible] noncomputable def c_hull_Cut : Con := conF F_hull_Cut (fun x => match x with | (a0, a1, a2) => [(V.agg (eTHull a0)), (V.v (.int .i64 (a1))), (V.v (.int .i64 (a2)))]) (fun r => V.tup [(V.agg (eTHull r.1)), (V.v (.int .i64 (r.2)))])
theorem h_hull_Cut : Has Try.prog 19 c_hull_Cut := by
  refine hasF (ctx_cons h_slices_Concat_L_HullSection_HullSection (ctx_cons h_hull_build (ctx_cons h_hull_Check (ctx_cons h_numbers_Within ctx_nil)))) mix Try.func19 rfl (by kernel_rfl) ?_
  rintro ⟨a0, a1, a2⟩ r hF
  refine ⟨of_decide_eq_true rfl, ?_⟩
  refine st1 ?_
  obtain ⟨_, h, hF⟩ := e_bind hF
  (first | refine g_call h lv1 ?_ | refine g_callT h lv1 ?_)
  (conv => arg 1; whnf)
  refine st1 ?_
  rcases e_bif hF with ⟨hb1, hF⟩ | ⟨hb1, hF⟩ <;> (first | rw [hb1] | (conv => arg 7; rw [hb1]) | (conv => arg 9; rw [hb1]))
  · refine st1 ?_
    have hq : some _ = some _ := hF
    cases hq
    exact en1
  · refine st1 ?_
    obtain ⟨_, h, hF⟩ := e_bind hF
    (first | refine g_call h lv1 ?_ | refine g_callT h lv1 ?_)
    (conv => arg 1; whnf)
    refine st1 ?_
    rcases e_bif hF with ⟨hb2, hF⟩ | ⟨hb2, hF⟩ <;> (first | rw [hb2] | (conv => arg 7; rw [hb2]) | (conv => arg 9; rw [hb2]))
    · refine st1 ?_
      have hq : some _ = some _ := hF
      cases hq
      exact en1
    · refine st1 ?_
      rcases e_bif hF with ⟨hb3, hF⟩ | ⟨hb3, hF⟩ <;> (first | rw [hb3] | (conv => arg 7; rw [hb3]) | (conv => arg 9; rw [hb3]))
      · refine st1 ?_
        have hq : some _ = some _ := hF
        cases hq
        exact en1
      · refine st1 ?_
        rcases e_bif hF with ⟨hb4, hF⟩ | ⟨hb4, hF⟩ <;> (first | rw [hb4] | (conv => arg 7; rw [hb4]) | (conv => arg 9; rw [hb4]))
        · refine st1 ?_
          have hq : some _ = some _ := hF
          cases hq
          exact en1
        · refine st1 ?_
          obtain ⟨_, h, hF⟩ := e_bind hF
          (first | refine o_slc (enc := eTHullSection) (s := 5) h (fun _ => rfl) ?_ | refine o_slcT (enc := eTHullSection) (s := 5) h (fun _ => rfl) ?_)
          refine st1 ?_
          obtain ⟨_, h, hF⟩ := e_bind hF
          (first | refine o_slc (enc := eTHullSection) (s := 5) h (fun _ => rfl) ?_ | refine o_slcT (enc := eTHullSection) (s := 5) h (fun _ => rfl) ?_)
          refine st1 ?_
          obtain ⟨_, h, hF⟩ := e_bind hF
          (first | refine g_call h lv1 ?_ | refine g_callT h lv1 ?_)
          (conv => arg 1; whnf)
          refine st1 ?_
          obtain ⟨_, h, hF⟩ := e_bind hF
          (first | refine g_call h lv1 ?_ | refine g_callT h lv1 ?_)
          (conv => arg 1; whnf)
          refine st1 ?_
          have hq : some _ = some _ := hF
          cases hq
          exact en1


@[reducible] noncomputable def c_hull_Weld : Con := conF F_hull_Weld (fun x => match x with | (a0, a1) => [(V.agg (eTHull a0)), (V.agg (eTHull a1))]) (fun r => V.tup [(V.agg (eTHull r.1)), (V.v (.int .i64 (r.2)))])
theorem h_hull_Weld : Has Try.prog 20 c_hull_Weld := by
  refine hasF (ctx_cons h_slices_Concat_L_HullSection_HullSection (ctx_cons h_hull_build (ctx_cons h_hull_Check ctx_nil))) mix Try.func20 rfl (by kernel_rfl) ?_
  rintro ⟨a0, a1⟩ r hF
  refine ⟨of_decide_eq_true rfl, ?_⟩
  refine st1 ?_
  obtain ⟨_, h, hF⟩ := e_bind hF
  (first | refine g_call h lv1 ?_ | refine g_callT h lv1 ?_)
  (conv => arg 1; whnf)
  refine st1 ?_
  rcases e_bif hF with ⟨hb1, hF⟩ | ⟨hb1, hF⟩ <;> (first | rw [hb1] | (conv => arg 7; rw [hb1]) | (conv => arg 9; rw [hb1]))
  · refine st1 ?_
    have hq : some _ = some _ := hF
    cases hq
    exact en1
  · refine st1 ?_
    obtain ⟨_, h, hF⟩ := e_bind hF
    (first | refine g_call h lv1 ?_ | refine g_callT h lv1 ?_)
    (conv => arg 1; whnf)
    refine st1 ?_
    rcases e_bif hF with ⟨hb2, hF⟩ | ⟨hb2, hF⟩ <;> (first | rw [hb2] | (conv => arg 7; rw [hb2]) | (conv => arg 9; rw [hb2]))
    · refine st1 ?_
      have hq : some _ = some _ := hF
      cases hq
      exact en1
    · refine st1 ?_
      rcases e_bif hF with ⟨hb3, hF⟩ | ⟨hb3, hF⟩ <;> (first | rw [hb3] | (conv => arg 7; rw [hb3]) | (conv => arg 9; rw [hb3]))
      · refine st1 ?_
        have hq : some _ = some _ := hF
        cases hq
        exact en1
      · refine st1 ?_
        obtain ⟨_, h, hF⟩ := e_bind hF
        (first | refine g_call h lv1 ?_ | refine g_callT h lv1 ?_)
        (conv => arg 1; whnf)
        refine st1 ?_
        obtain ⟨_, h, hF⟩ := e_bind hF
        (first | refine g_call h lv1 ?_ | refine g_callT h lv1 ?_)
        (conv => arg 1; whnf)
        refine st1 ?_
        obtain ⟨_, h, hF⟩ := e_bind hF
        (first | refine g_call h lv1 ?_ | refine g_callT h lv1 ?_)
        (conv => arg 1; whnf)
        refine st1 ?_
        rcases e_bif hF with ⟨hb4, hF⟩ | ⟨hb4, hF⟩ <;> (first | rw [hb4] | (conv => arg 7; rw [hb4]) | (conv => arg 9; rw [hb4]))
        · refine st1 ?_
          have hq : some _ = some _ := hF
          cases hq
          exact en1
        · refine st1 ?_
          have hq : some _ = some _ := hF
          cases hq
          exact en1


@[reducible] noncomputable def c_thalweglaw02_same : Con := conF F_thalweglaw02_same (fun x => match x with | (a0, a1) => [(V.agg (eTHull a0)), (V.agg (eTHull a1))]) (fun r => (V.v (.bool (r))))
theorem fl_thalweglaw02_same_60 : flatOf Try.prog 9 60 = some [true, true] := by kernel_rfl
theorem eg_thalweglaw02_same_60 : Try.prog.eqGuardType Try.prog.depth 60 = false := by kernel_rfl
theorem ag_thalweglaw02_same_60 : aggOf Try.prog 60 = some true := by kernel_rfl
theorem fl_thalweglaw02_same_113 : flatOf Try.prog 9 113 = some [true, true] := by kernel_rfl
theorem eg_thalweglaw02_same_113 : Try.prog.eqGuardType Try.prog.depth 113 = false := by kernel_rfl
theorem ag_thalweglaw02_same_113 : aggOf Try.prog 113 = some true := by kernel_rfl
theorem h_thalweglaw02_same : Has Try.prog 21 c_thalweglaw02_same := by
  refine hasF ctx_nil mix Try.func21 rfl (by kernel_rfl) ?_
  rintro ⟨a0, a1⟩ r hF
  refine ⟨of_decide_eq_true rfl, ?_⟩
  refine st1 ?_
  rcases e_bif hF with ⟨hb1, hF⟩ | ⟨hb1, hF⟩ <;> (first | rw [hb1] | (conv => arg 7; rw [hb1]) | (conv => arg 9; rw [hb1]))
  · refine st1 ?_
    have hq : some _ = some _ := hF
    cases hq
    exact en1
  · refine st1 ?_
    rcases e_bif hF with ⟨hb2, hF⟩ | ⟨hb2, hF⟩ <;> (first | rw [hb2] | (conv => arg 7; rw [hb2]) | (conv => arg 9; rw [hb2]))
    · refine st1 ?_
      have hq : some _ = some _ := hF
      cases hq
      exact en1
    · refine st1 ?_
      refine st_loopF (e_assoc hF) () [(0, _), (1, _)] ⟨sT, sS, by rfl, by rfl⟩ ?_
      · rintro n _ _ x hx1 hF
        (conv => arg 7; whnf); (conv => arg 8; whnf); (conv => arg 9; whnf)
        refine st1 ?_
        rcases e_bif hF with ⟨hb39, hF⟩ | ⟨hb39, hF⟩ <;> (first | rw [hb39] | (conv => arg 7; rw [hb39]) | (conv => arg 9; rw [hb39]))
        · refine st1 ?_
          obtain ⟨_, h, hF⟩ := e_bind hF
          (first | refine o_ia (enc := eTHullSection) (s := 5) h (fun _ => rfl) (by decide) ?_ | refine o_iaT (enc := eTHullSection) (s := 5) h (fun _ => rfl) (by decide) ?_)
          intro _
          refine st1 ?_
          obtain ⟨_, h, hF⟩ := e_bind hF
          (first | refine o_ia (enc := eTHullSection) (s := 5) h (fun _ => rfl) (by decide) ?_ | refine o_iaT (enc := eTHullSection) (s := 5) h (fun _ => rfl) (by decide) ?_)
          intro _
          refine st1 ?_
          rcases e_bif hF with ⟨hb40, hF⟩ | ⟨hb40, hF⟩ <;> (first | rw [hb40] | (conv => arg 7; rw [hb40]) | (conv => arg 9; rw [hb40]))
          · refine st1 ?_
            have hF := e_some hF
            have hq : some _ = some _ := hF
            cases hq
            exact en1
          · refine st1 ?_
            rcases e_bif hF with ⟨hb41, hF⟩ | ⟨hb41, hF⟩ <;> (first | rw [hb41] | (conv => arg 7; rw [hb41]) | (conv => arg 9; rw [hb41]))
            · refine st1 ?_
              have hF := e_some hF
              have hq : some _ = some _ := hF
              cases hq
              exact en1
            · refine st1 ?_
              rcases e_bif hF with ⟨hb42, hF⟩ | ⟨hb42, hF⟩ <;> (first | rw [hb42] | (conv => arg 7; rw [hb42]) | (conv => arg 9; rw [hb42]))
              · refine st1 ?_
                have hF := e_some hF
                have hq : some _ = some _ := hF
                cases hq
                exact en1
              · refine st1 ?_
                rcases e_bif hF with ⟨hb43, hF⟩ | ⟨hb43, hF⟩ <;> (first | rw [hb43] | (conv => arg 7; rw [hb43]) | (conv => arg 9; rw [hb43]))
                · refine st1 ?_
                  have hF := e_some hF
                  have hq : some _ = some _ := hF
                  cases hq
                  exact en1
                · refine st1 ?_
                  rcases e_bif hF with ⟨hb44, hF⟩ | ⟨hb44, hF⟩ <;> (first | rw [hb44] | (conv => arg 7; rw [hb44]) | (conv => arg 9; rw [hb44]))
                  · refine st1 ?_
                    have hF := e_some hF
                    have hq : some _ = some _ := hF
                    cases hq
                    exact en1
                  · refine st1 ?_
                    refine st_loopF (e_assoc hF) () [(0, _), (1, _), (17, _), (18, _)] ⟨sT, sS, by rfl, by rfl⟩ ?_
                    · rintro n _ _ x hx2 hF
                      (conv => arg 7; whnf); (conv => arg 8; whnf); (conv => arg 9; whnf)
                      refine st1 ?_
                      rcases e_bif hF with ⟨hb49, hF⟩ | ⟨hb49, hF⟩ <;> (first | rw [hb49] | (conv => arg 7; rw [hb49]) | (conv => arg 9; rw [hb49]))
                      · refine st1 ?_
                        obtain ⟨_, h, hF⟩ := e_bind hF
                        (first | refine o_ia (enc := eTHullRow) (s := 2) h (fun _ => rfl) (by decide) ?_ | refine o_iaT (enc := eTHullRow) (s := 2) h (fun _ => rfl) (by decide) ?_)
                        intro _
                        refine st1 ?_
                        obtain ⟨_, h, hF⟩ := e_bind hF
                        (first | refine o_ia (enc := eTHullRow) (s := 2) h (fun _ => rfl) (by decide) ?_ | refine o_iaT (enc := eTHullRow) (s := 2) h (fun _ => rfl) (by decide) ?_)
                        intro _
                        refine st1 ?_
                        rw [fl_thalweglaw02_same_113, eg_thalweglaw02_same_113, ag_thalweglaw02_same_113]
                        (conv => arg 1; whnf)
                        refine st1 ?_
                        rcases e_bif hF with ⟨hb50, hF⟩ | ⟨hb50, hF⟩ <;> (first | rw [hb50] | (conv => arg 7; rw [hb50]) | (conv => arg 9; rw [hb50]))
                        · refine st1 ?_
                          have hF := e_some hF
                          have hF := e_some hF
                          have hq : some _ = some _ := hF
                          cases hq
                          exact en1
                        · refine st1 ?_
                          exact k_loopF (e_some hF) hx2 () [(0, _), (1, _), (17, _), (18, _)] ⟨sT, sS, by rfl, by rfl⟩
                      · refine st1 ?_
                        have hF := e_some hF
                        refine st_loopF (e_assoc hF) () [(0, _), (1, _), (17, _), (18, _)] ⟨sT, sS, by rfl, by rfl⟩ ?_
                        · rintro n _ _ x hx2 hF
                          (conv => arg 7; whnf); (conv => arg 8; whnf); (conv => arg 9; whnf)
                          refine st1 ?_
                          rcases e_bif hF with ⟨hb55, hF⟩ | ⟨hb55, hF⟩ <;> (first | rw [hb55] | (conv => arg 7; rw [hb55]) | (conv => arg 9; rw [hb55]))
                          · refine st1 ?_
                            obtain ⟨_, h, hF⟩ := e_bind hF
                            (first | refine o_ia (enc := eTHullHold) (s := 2) h (fun _ => rfl) (by decide) ?_ | refine o_iaT (enc := eTHullHold) (s := 2) h (fun _ => rfl) (by decide) ?_)
                            intro _
                            refine st1 ?_
                            obtain ⟨_, h, hF⟩ := e_bind hF
                            (first | refine o_ia (enc := eTHullHold) (s := 2) h (fun _ => rfl) (by decide) ?_ | refine o_iaT (enc := eTHullHold) (s := 2) h (fun _ => rfl) (by decide) ?_)
                            intro _
                            refine st1 ?_
                            rw [fl_thalweglaw02_same_60, eg_thalweglaw02_same_60, ag_thalweglaw02_same_60]
                            (conv => arg 1; whnf)
                            refine st1 ?_
                            rcases e_bif hF with ⟨hb56, hF⟩ | ⟨hb56, hF⟩ <;> (first | rw [hb56] | (conv => arg 7; rw [hb56]) | (conv => arg 9; rw [hb56]))
                            · refine st1 ?_
                              have hF := e_some hF
                              have hF := e_some hF
                              have hq : some _ = some _ := hF
                              cases hq
                              exact en1
                            · refine st1 ?_
                              exact k_loopF (e_some hF) hx2 () [(0, _), (1, _), (17, _), (18, _)] ⟨sT, sS, by rfl, by rfl⟩
                          · refine st1 ?_
                            have hF := e_some hF
                            exact k_loopF (e_some hF) hx1 () [(0, _), (1, _)] ⟨sT, sS, by rfl, by rfl⟩
        · refine st1 ?_
          have hF := e_some hF
          have hq : some _ = some _ := hF
          cases hq
          exact en1


@[reducible] noncomputable def c_thalweglaw02_HullWelded : Con := conF F_thalweglaw02_HullWelded (fun x => match x with | (a0, a1, a2) => [(V.agg (eTthalweglaw02_Small a0)), (V.v (.int .u8 (a1))), (V.v (.int .u8 (a2)))]) (fun r => (V.v (.bool (r))))
theorem h_thalweglaw02_HullWelded : Has Try.prog 5 c_thalweglaw02_HullWelded := by
  refine hasF (ctx_cons h_thalweglaw02_same (ctx_cons h_hull_Weld (ctx_cons h_hull_Cut (ctx_cons h_hull_Volume (ctx_cons h_thalweglaw02_own (ctx_cons h_thalweglaw02_Small_hull (ctx_cons h_thalweglaw02_known ctx_nil))))))) mix Try.func5 rfl (by kernel_rfl) ?_
  rintro ⟨a0, a1, a2⟩ r hF
  refine ⟨of_decide_eq_true rfl, ?_⟩
  refine st1 ?_
  obtain ⟨_, h, hF⟩ := e_bind hF
  (first | refine g_call h lv1 ?_ | refine g_callT h lv1 ?_)
  (conv => arg 1; whnf)
  refine st1 ?_
  rcases e_bif hF with ⟨hb1, hF⟩ | ⟨hb1, hF⟩ <;> (first | rw [hb1] | (conv => arg 7; rw [hb1]) | (conv => arg 9; rw [hb1]))
  · refine st1 ?_
    obtain ⟨_, h, hF⟩ := e_bind hF
    (first | refine g_call h lv1 ?_ | refine g_callT h lv1 ?_)
    (conv => arg 1; whnf)
    refine st1 ?_
    obtain ⟨_, h, hF⟩ := e_bind hF
    (first | refine g_call h lv1 ?_ | refine g_callT h lv1 ?_)
    (conv => arg 1; whnf)
    refine st1 ?_
    rcases e_bif hF with ⟨hb2, hF⟩ | ⟨hb2, hF⟩ <;> (first | rw [hb2] | (conv => arg 7; rw [hb2]) | (conv => arg 9; rw [hb2]))
    · refine st1 ?_
      obtain ⟨_, h, hF⟩ := e_bind hF
      (first | refine g_call h lv1 ?_ | refine g_callT h lv1 ?_)
      (conv => arg 1; whnf)
      refine st1 ?_
      have hq : some _ = some _ := hF
      cases hq
      exact en1
    · refine st1 ?_
      have hq : some _ = some _ := hF
      cases hq
      exact en1
  · refine st1 ?_
    obtain ⟨_, h, hF⟩ := e_bind hF
    (first | refine go_req (nz_ne h) ?_ | refine goT_req (nz_ne h) ?_)
    (conv => arg 1; whnf)
    refine st1 ?_
    obtain ⟨_, h, hF⟩ := e_bind hF
    (first | refine g_call h lv1 ?_ | refine g_callT h lv1 ?_)
    (conv => arg 1; whnf)
    refine st1 ?_
    obtain ⟨_, h, hF⟩ := e_bind hF
    (first | refine g_call h lv1 ?_ | refine g_callT h lv1 ?_)
    (conv => arg 1; whnf)
    refine st1 ?_
    obtain ⟨_, h, hF⟩ := e_bind hF
    (first | refine g_call h lv1 ?_ | refine g_callT h lv1 ?_)
    (conv => arg 1; whnf)
    refine st1 ?_
    obtain ⟨_, h, hF⟩ := e_bind hF
    (first | refine g_call h lv1 ?_ | refine g_callT h lv1 ?_)
    (conv => arg 1; whnf)
    refine st1 ?_
    obtain ⟨_, h, hF⟩ := e_bind hF
    (first | refine g_call h lv1 ?_ | refine g_callT h lv1 ?_)
    (conv => arg 1; whnf)
    refine st1 ?_
    obtain ⟨_, h, hF⟩ := e_bind hF
    (first | refine g_call h lv1 ?_ | refine g_callT h lv1 ?_)
    (conv => arg 1; whnf)
    refine st1 ?_
    obtain ⟨_, h, hF⟩ := e_bind hF
    (first | refine g_call h lv1 ?_ | refine g_callT h lv1 ?_)
    (conv => arg 1; whnf)
    refine st1 ?_
    rcases e_bif hF with ⟨hb3, hF⟩ | ⟨hb3, hF⟩ <;> (first | rw [hb3] | (conv => arg 7; rw [hb3]) | (conv => arg 9; rw [hb3]))
    · refine st1 ?_
      have hq : some _ = some _ := hF
      cases hq
      exact en1
    · refine st1 ?_
      rcases e_bif hF with ⟨hb4, hF⟩ | ⟨hb4, hF⟩ <;> (first | rw [hb4] | (conv => arg 7; rw [hb4]) | (conv => arg 9; rw [hb4]))
      · refine st1 ?_
        have hq : some _ = some _ := hF
        cases hq
        exact en1
      · refine st1 ?_
        rcases e_bif hF with ⟨hb5, hF⟩ | ⟨hb5, hF⟩ <;> (first | rw [hb5] | (conv => arg 7; rw [hb5]) | (conv => arg 9; rw [hb5]))
        · refine st1 ?_
          have hq : some _ = some _ := hF
          cases hq
          exact en1
        · refine st1 ?_
          obtain ⟨_, h, hF⟩ := e_bind hF
          (first | refine g_call h lv1 ?_ | refine g_callT h lv1 ?_)
          (conv => arg 1; whnf)
          refine st1 ?_
          rcases e_bif hF with ⟨hb6, hF⟩ | ⟨hb6, hF⟩ <;> (first | rw [hb6] | (conv => arg 7; rw [hb6]) | (conv => arg 9; rw [hb6]))
          · refine st1 ?_
            have hq : some _ = some _ := hF
            cases hq
            exact en1
          · refine st1 ?_
            rcases e_bif hF with ⟨hb7, hF⟩ | ⟨hb7, hF⟩ <;> (first | rw [hb7] | (conv => arg 7; rw [hb7]) | (conv => arg 9; rw [hb7]))
            · refine st1 ?_
              have hq : some _ = some _ := hF
              cases hq
              exact en1
            · refine st1 ?_
              rcases e_bif hF with ⟨hb8, hF⟩ | ⟨hb8, hF⟩ <;> (first | rw [hb8] | (conv => arg 7; rw [hb8]) | (conv => arg 9; rw [hb8]))
              · refine st1 ?_
                have hq : some _ = some _ := hF
                cases hq
                exact en1
              · refine st1 ?_
                obtain ⟨_, h, hF⟩ := e_bind hF
                (first | refine g_call h lv1 ?_ | refine g_callT h lv1 ?_)
                (conv => arg 1; whnf)
                refine st1 ?_
                obtain ⟨_, h, hF⟩ := e_bind hF
                (first | refine g_call h lv1 ?_ | refine g_callT h lv1 ?_)
                (conv => arg 1; whnf)
                refine st1 ?_
                obtain ⟨_, h, hF⟩ := e_bind hF
                (first | refine g_call h lv1 ?_ | refine g_callT h lv1 ?_)
                (conv => arg 1; whnf)
                refine st1 ?_
                rcases e_bif hF with ⟨hb9, hF⟩ | ⟨hb9, hF⟩ <;> (first | rw [hb9] | (conv => arg 7; rw [hb9]) | (conv => arg 9; rw [hb9]))
                · refine st1 ?_
                  rcases e_bif hF with ⟨hb10, hF⟩ | ⟨hb10, hF⟩ <;> (first | rw [hb10] | (conv => arg 7; rw [hb10]) | (conv => arg 9; rw [hb10]))
                  · refine st1 ?_
                    rcases e_bif hF with ⟨hb11, hF⟩ | ⟨hb11, hF⟩ <;> (first | rw [hb11] | (conv => arg 7; rw [hb11]) | (conv => arg 9; rw [hb11]))
                    · refine st1 ?_
                      rcases e_bif hF with ⟨hb12, hF⟩ | ⟨hb12, hF⟩ <;> (first | rw [hb12] | (conv => arg 7; rw [hb12]) | (conv => arg 9; rw [hb12]))
                      · refine st1 ?_
                        obtain ⟨_, h, hF⟩ := e_bind hF
                        (first | refine g_call h lv1 ?_ | refine g_callT h lv1 ?_)
                        (conv => arg 1; whnf)
                        refine st1 ?_
                        have hq : some _ = some _ := hF
                        cases hq
                        exact en1
                      · refine st1 ?_
                        have hq : some _ = some _ := hF
                        cases hq
                        exact en1
                    · refine st1 ?_
                      have hq : some _ = some _ := hF
                      cases hq
                      exact en1
                  · refine st1 ?_
                    rcases e_bif hF with ⟨hb13, hF⟩ | ⟨hb13, hF⟩ <;> (first | rw [hb13] | (conv => arg 7; rw [hb13]) | (conv => arg 9; rw [hb13]))
                    · refine st1 ?_
                      rcases e_bif hF with ⟨hb14, hF⟩ | ⟨hb14, hF⟩ <;> (first | rw [hb14] | (conv => arg 7; rw [hb14]) | (conv => arg 9; rw [hb14]))
                      · refine st1 ?_
                        obtain ⟨_, h, hF⟩ := e_bind hF
                        (first | refine g_call h lv1 ?_ | refine g_callT h lv1 ?_)
                        (conv => arg 1; whnf)
                        refine st1 ?_
                        have hq : some _ = some _ := hF
                        cases hq
                        exact en1
                      · refine st1 ?_
                        have hq : some _ = some _ := hF
                        cases hq
                        exact en1
                    · refine st1 ?_
                      have hq : some _ = some _ := hF
                      cases hq
                      exact en1
                · refine st1 ?_
                  rcases e_bif hF with ⟨hb15, hF⟩ | ⟨hb15, hF⟩ <;> (first | rw [hb15] | (conv => arg 7; rw [hb15]) | (conv => arg 9; rw [hb15]))
                  · refine st1 ?_
                    rcases e_bif hF with ⟨hb16, hF⟩ | ⟨hb16, hF⟩ <;> (first | rw [hb16] | (conv => arg 7; rw [hb16]) | (conv => arg 9; rw [hb16]))
                    · refine st1 ?_
                      obtain ⟨_, h, hF⟩ := e_bind hF
                      (first | refine g_call h lv1 ?_ | refine g_callT h lv1 ?_)
                      (conv => arg 1; whnf)
                      refine st1 ?_
                      have hq : some _ = some _ := hF
                      cases hq
                      exact en1
                    · refine st1 ?_
                      have hq : some _ = some _ := hF
                      cases hq
                      exact en1
                  · refine st1 ?_
                    have hq : some _ = some _ := hF
                    cases hq
                    exact en1
end Go.Ev
