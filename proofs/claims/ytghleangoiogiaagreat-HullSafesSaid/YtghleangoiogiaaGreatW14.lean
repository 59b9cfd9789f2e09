/- A part of the proof of HullSafes. -/
import Derived.Test.YtghleangoiogiaaGreatW13
/- Chapter 1: what the checks say. -/
set_option linter.unusedVariables false
set_option linter.unusedSimpArgs false
namespace Go.Ev
set_option maxHeartbeats 1000000

theorem every_int {l : List Int} {p : Int → Option Bool} {q : Int → Bool} {g : FuncId} {caps : List V} (hp : ∀ x ∈ l, p x = some (q x)) (hl : l.length ≤ 4611686018427387904) : F_numbers_Every_int (l, p, g, caps) = some (l.all q) := by
  unfold F_numbers_Every_int
  simp only
  rw [show (0 : Int) = ((0 : Nat) : Int) from rfl, loop_list l (fun k => (k : Int)) q (e := .inl ()) (f := .inr false)]
  · cases l.all q <;> rfl
  · intro k hk
    simp only [L_numbers_Every_int_1, Int.ofNat_lt, hk, decide_true, cond_true, idx?_nat hk, Option.bind_some, hp _ (List.getElem_mem hk), wr_nat (show k < 9223372036854775807 by omega)]
    cases q l[k] <;> rfl
  · simp [L_numbers_Every_int_1]
theorem every_Reach {l : List TReach} {p : TReach → Option Bool} {q : TReach → Bool} {g : FuncId} {caps : List V} (hp : ∀ x ∈ l, p x = some (q x)) (hl : l.length ≤ 4611686018427387904) : F_numbers_Every_Reach (l, p, g, caps) = some (l.all q) := by
  unfold F_numbers_Every_Reach
  simp only
  rw [show (0 : Int) = ((0 : Nat) : Int) from rfl, loop_list l (fun k => (k : Int)) q (e := .inl ()) (f := .inr false)]
  · cases l.all q <;> rfl
  · intro k hk
    simp only [L_numbers_Every_Reach_1, Int.ofNat_lt, hk, decide_true, cond_true, idx?_nat hk, Option.bind_some, hp _ (List.getElem_mem hk), wr_nat (show k < 9223372036854775807 by omega)]
    cases q l[k] <;> rfl
  · simp [L_numbers_Every_Reach_1]
theorem every_RateRow {l : List TRateRow} {p : TRateRow → Option Bool} {q : TRateRow → Bool} {g : FuncId} {caps : List V} (hp : ∀ x ∈ l, p x = some (q x)) (hl : l.length ≤ 4611686018427387904) : F_numbers_Every_RateRow (l, p, g, caps) = some (l.all q) := by
  unfold F_numbers_Every_RateRow
  simp only
  rw [show (0 : Int) = ((0 : Nat) : Int) from rfl, loop_list l (fun k => (k : Int)) q (e := .inl ()) (f := .inr false)]
  · cases l.all q <;> rfl
  · intro k hk
    simp only [L_numbers_Every_RateRow_1, Int.ofNat_lt, hk, decide_true, cond_true, idx?_nat hk, Option.bind_some, hp _ (List.getElem_mem hk), wr_nat (show k < 9223372036854775807 by omega)]
    cases q l[k] <;> rfl
  · simp [L_numbers_Every_RateRow_1]
theorem every_Shoal {l : List TShoal} {p : TShoal → Option Bool} {q : TShoal → Bool} {g : FuncId} {caps : List V} (hp : ∀ x ∈ l, p x = some (q x)) (hl : l.length ≤ 4611686018427387904) : F_numbers_Every_Shoal (l, p, g, caps) = some (l.all q) := by
  unfold F_numbers_Every_Shoal
  simp only
  rw [show (0 : Int) = ((0 : Nat) : Int) from rfl, loop_list l (fun k => (k : Int)) q (e := .inl ()) (f := .inr false)]
  · cases l.all q <;> rfl
  · intro k hk
    simp only [L_numbers_Every_Shoal_1, Int.ofNat_lt, hk, decide_true, cond_true, idx?_nat hk, Option.bind_some, hp _ (List.getElem_mem hk), wr_nat (show k < 9223372036854775807 by omega)]
    cases q l[k] <;> rfl
  · simp [L_numbers_Every_Shoal_1]

theorem bif_and (a b : Bool) : (bif a then some b else some false) = some (a && b) := by cases a <;> rfl
theorem bif_not (a b : Bool) : (bif (!a) then some false else some b) = some (a && b) := by cases a <;> rfl

theorem within1_eq (n a b : Int) : F_numbers_Within_1 (n, a, b) = some (inB n a b) := by
  simp only [F_numbers_Within_1, bif_and, inB]
theorem within_eq (a b : Int) (l : List Int) (hl : l.length ≤ 4611686018427387904) : F_numbers_Within (a, b, l) = some (l.all fun n => inB n a b) := by
  simp only [F_numbers_Within]
  rw [every_int (q := fun n => inB n a b) (fun x _ => within1_eq x a b) hl]
  rfl
theorem within1 (a b n : Int) : F_numbers_Within (a, b, [n]) = some (inB n a b) := by rw [within_eq _ _ _ (by simp)]; simp
theorem within2 (a b n m : Int) : F_numbers_Within (a, b, [n, m]) = some (inB n a b && inB m a b) := by rw [within_eq _ _ _ (by simp)]; simp
def vB (b : TBounds) (x y : Int) : Bool := decide (b.Low ≤ b.High) && (inB b.Low x y && inB b.High x y)
theorem valid_eq (b : TBounds) (x y : Int) : F_numbers_Valid (b, x, y) = some (vB b x y) := by
  simp only [F_numbers_Valid, within2, Option.bind_some, bif_and, vB]
theorem In_eq (n a b : Int) : F_thalwegref01_In (n, a, b) = some (inB n a b) := by
  simp only [F_thalwegref01_In, ge_iff_le, bif_and, inB]
theorem rvalid_eq (b : TBounds) (x y : Int) : F_thalwegref01_Valid (b, x, y) = some (vB b x y) := by
  simp only [F_thalwegref01_Valid, In_eq, Option.bind_some, bif_and]
  congr 1
  rw [Bool.eq_iff_iff]
  simp only [vB, inB, Bool.and_eq_true, decide_eq_true_eq]
  omega

def rowOk (x : TRateRow) : Bool := inB x.Flow 0 10000000000 && inB x.Level 0 10000
def pairOk (p : TRateRow × TRateRow) : Bool := decide (p.1.Flow < p.2.Flow) && decide (p.1.Level ≤ p.2.Level)
def curveOk (l : List TRateRow) : Bool := inB l.length 2 30 && ((pairs l).all pairOk && l.all rowOk)
theorem vc2_eq (x : TRateRow) : F_river_validCurve_2 x = some (rowOk x) := by
  simp only [F_river_validCurve_2, within1, Option.bind_some, bif_and, rowOk]
theorem vc1_eq (a b : TRateRow) : F_river_validCurve_1 (a, b) = some (pairOk (a, b)) := by
  simp only [F_river_validCurve_1, bif_and, pairOk]
theorem validCurve_eq (l : List TRateRow) : F_river_validCurve l = some (curveOk l) := by
  unfold F_river_validCurve
  simp only [within1, Option.bind_some]
  cases hl : inB l.length 2 30 with
  | false => simp [curveOk, hl]
  | true =>
    rw [inB_iff] at hl
    simp only [Bool.not_true, cond_false]
    rw [show (1 : Int) = (((0 : Nat) + 1 : Nat) : Int) from rfl, loop_list (pairs l) (fun k => ((k + 1 : Nat) : Int)) pairOk (e := .inl ()) (f := .inr false)]
    · cases hp : (pairs l).all pairOk with
      | false => simp [curveOk, hp]
      | true =>
        simp only [if_true, Option.bind_some]
        rw [every_RateRow (q := rowOk) (fun x _ => vc2_eq x) (by omega)]
        simp [curveOk, hp, inB, hl]
    · intro k hk
      have hk' := hk
      rw [pairs_length] at hk'
      rw [pairs_get]
      simp only [L_river_validCurve_1, show decide (((k + 1 : Nat) : Int) < (l.length : Int)) = true by simp; omega, cond_true]
      rw [show wr (((k + 1 : Nat) : Int) - 1) = (k : Int) by rw [wr_in] <;> omega, idx?_nat (show k < l.length by omega), idx?_nat (show k + 1 < l.length by omega)]
      simp only [Option.bind_some, vc1_eq]
      rw [wr_nat (by omega)]
      cases pairOk (l[k], l[k + 1]) <;> rfl
    · simp only [L_river_validCurve_1, pairs_length]
      rw [show l.length - 1 + 1 = l.length by omega]
      simp
def reachOk (x : TReach) : Bool := inB x.Length 1 5000 && (inB x.Delay 0 200 && ((inB x.Weir 0 10000 && inB x.Flood 0 10000) && (vB x.Base 0 10000000000 && (vB x.Bottom 0 10000 && curveOk x.Curve))))
theorem validReach_eq (x : TReach) : F_river_validReach x = some (reachOk x) := by
  simp only [F_river_validReach, within1, within2, valid_eq, validCurve_eq, Option.bind_some, bif_and, reachOk]
end Go.Ev
/- Chapter 1: rivers that are valid. -/
set_option linter.unusedVariables false
set_option linter.unusedSimpArgs false
namespace Go.Ev
set_option maxHeartbeats 1000000

theorem bif_not' (a : Bool) (x : Option Bool) : (bif (!a) then some false else x) = bif a then x else some false := by cases a <;> rfl
/-- What a reference asks of the rows of a curve, row by row. -/
def rowAt (l : List TRateRow) (k : Nat) : Bool := match l[k]? with
  | none => true
  | some x => rowOk x && (decide (k = 0) || match l[k - 1]? with
    | none => true
    | some y => pairOk (y, x))
theorem all_rows (l : List TRateRow) : (List.range l.length).all (rowAt l) = ((pairs l).all pairOk && l.all rowOk) := by
  rw [Bool.eq_iff_iff]
  simp only [List.all_eq_true, Bool.and_eq_true, List.mem_range]
  constructor
  · intro h
    refine ⟨fun p hp => ?_, fun x hx => ?_⟩
    · obtain ⟨k, hk, rfl⟩ := List.getElem_of_mem hp
      rw [pairs_get]
      have hk' := hk
      rw [pairs_length] at hk'
      have := h (k + 1) (by omega)
      unfold rowAt at this
      rw [List.getElem?_eq_getElem (show k + 1 < l.length by omega)] at this
      simp only [Nat.add_sub_cancel, List.getElem?_eq_getElem (show k < l.length by omega), Bool.and_eq_true, Bool.or_eq_true] at this
      rcases this.2 with h1 | h1
      · simp at h1
      · exact h1
    · obtain ⟨k, hk, rfl⟩ := List.getElem_of_mem hx
      have := h k hk
      unfold rowAt at this
      rw [List.getElem?_eq_getElem hk] at this
      simp only [Bool.and_eq_true] at this
      exact this.1
  · rintro ⟨h1, h2⟩ k hk
    unfold rowAt
    rw [List.getElem?_eq_getElem hk]
    simp only [Bool.and_eq_true, Bool.or_eq_true]
    refine ⟨h2 _ (List.getElem_mem hk), ?_⟩
    cases k with
    | zero => left; rfl
    | succ k =>
      right
      rw [Nat.add_sub_cancel, List.getElem?_eq_getElem (show k < l.length by omega)]
      have hp : k < (pairs l).length := by rw [pairs_length]; omega
      have := h1 _ (List.getElem_mem hp)
      rwa [pairs_get] at this

theorem loop_range {S E : Type} {step : S → Option (S ⊕ E)} (n : Nat) (st : Nat → S) (q : Nat → Bool) {e f : E} (h : ∀ k, k < n → step (st k) = some (if q k then .inl (st (k + 1)) else .inr f)) (he : step (st n) = some (.inr e)) :
    loopC step (st 0) = some (if (List.range n).all q then e else f) := by
  have := loop_list (List.range n) st q (e := e) (f := f) (step := step) (by intro k hk; simpa using h k (by simpa using hk)) (by simpa using he)
  exact this

theorem refReach_eq (x : TReach) : F_thalwegref01_Reach x = some (reachOk x) := by
  unfold F_thalwegref01_Reach
  simp only [In_eq, rvalid_eq, Option.bind_some, bif_not']
  cases hl : inB x.Curve.length 2 30 with
  | false =>
    have : reachOk x = false := by simp [reachOk, curveOk, hl]
    rw [this]
    simp only [cond_false]
    cases inB x.Length 1 5000 <;> cases inB x.Delay 0 200 <;> cases vB x.Base 0 10000000000 <;> rfl
  | true =>
    have hl2 := inB_iff.1 hl
    rw [show (0 : Int) = ((0 : Nat) : Int) from rfl, loop_range x.Curve.length (fun k => (k : Int)) (rowAt x.Curve) (e := .inl ()) (f := .inr false)]
    · rw [all_rows]
      simp only [reachOk, curveOk, hl]
      cases inB x.Length 1 5000 <;> cases inB x.Delay 0 200 <;> cases vB x.Base 0 10000000000 <;> cases inB x.Weir 0 10000 <;> cases vB x.Bottom 0 10000 <;> cases inB x.Flood 0 10000 <;> cases (pairs x.Curve).all pairOk <;> cases x.Curve.all rowOk <;> rfl
    · intro k hk
      simp only [L_thalwegref01_Reach_1, Int.ofNat_lt, hk, decide_true, cond_true, idx?_nat hk, Option.bind_some, In_eq]
      rw [wr_nat (by omega)]
      simp only [rowAt, List.getElem?_eq_getElem hk, rowOk]
      cases inB x.Curve[k].Flow 0 10000000000 with
      | false => rfl
      | true =>
        cases inB x.Curve[k].Level 0 10000 with
        | false => rfl
        | true =>
          simp only [Bool.not_true, cond_false, Bool.and_self, Bool.true_and]
          cases k with
          | zero => rfl
          | succ k =>
            simp only [show decide (((k + 1 : Nat) : Int) > 0) = true by simp, cond_true]
            rw [show wr (((k + 1 : Nat) : Int) - 1) = (k : Int) by rw [wr_in] <;> omega, idx?_nat (show k < x.Curve.length by omega)]
            simp only [Option.bind_some, Nat.add_sub_cancel, List.getElem?_eq_getElem (show k < x.Curve.length by omega), pairOk, show decide (k + 1 = 0) = false by simp, Bool.false_or]
            by_cases h1 : x.Curve[k + 1].Flow ≤ x.Curve[k].Flow
            · simp [h1, show ¬ x.Curve[k].Flow < x.Curve[k + 1].Flow by omega]
            · by_cases h2 : x.Curve[k + 1].Level < x.Curve[k].Level
              · simp [h1, h2, show x.Curve[k].Flow < x.Curve[k + 1].Flow by omega, show ¬ x.Curve[k].Level ≤ x.Curve[k + 1].Level by omega]
              · simp [h1, h2, show x.Curve[k].Flow < x.Curve[k + 1].Flow by omega, show x.Curve[k].Level ≤ x.Curve[k + 1].Level by omega]
    · simp [L_thalwegref01_Reach_1]
end Go.Ev
/- Chapter 1: places, rivers, copies. -/
set_option linter.unusedVariables false
set_option linter.unusedSimpArgs false
namespace Go.Ev
set_option maxHeartbeats 1000000

theorem drop_cons {α : Type} {l m : List α} {k : Nat} {x : α} (h : l.drop k = x :: m) : ∃ hk : k < l.length, l[k] = x ∧ l.drop (k + 1) = m := by
  have hk : k < l.length := by
    rcases Nat.lt_or_ge k l.length with e | e
    · exact e
    · rw [List.drop_of_length_le e] at h; cases h
  rw [List.drop_eq_getElem_cons hk] at h
  cases h
  exact ⟨hk, rfl, rfl⟩
theorem drop_nil {α : Type} {l : List α} {k : Nat} (h : l.drop k = []) : l.length ≤ k := by
  have := congrArg List.length h
  simpa using Nat.le_of_sub_eq_zero (by simpa using this)

def tot : List TReach → Int
  | [] => 0
  | x :: m => x.Length + tot m
def findGo (place : Int) (sh : List TShoal) : List TReach → Int → Nat → Option Triver_site
  | [], _, _ => none
  | x :: m, e, k => if 0 ≤ place ∧ place < e + x.Length then some ⟨x, k, place, sh⟩ else findGo place sh m (e + x.Length) (k + 1)
theorem find_loop (r : TRiver) (place : Int) : ∀ (m : List TReach) (k : Nat) (e : Int), r.Reaches.drop k = m → (∀ x ∈ m, 0 ≤ x.Length ∧ x.Length ≤ 5000) → 0 ≤ e → e ≤ 5000 * k → k + m.length ≤ 1000000 →
    loopC (L_river_find_1 place r).step (e, (k : Int)) = some (match findGo place r.Shoals m e k with | some s => .inr (s, true) | none => .inl ())
  | [], k, e, h, _, _, _, _ => by
    have := drop_nil h
    rw [loopC_eq]
    simp [L_river_find_1, show ¬ k < r.Reaches.length by omega, findGo]
  | x :: m, k, e, h, hx, h0, h1, hk => by
    obtain ⟨hl, hg, hd⟩ := drop_cons h
    have hx0 := hx x (by simp)
    simp only [List.length_cons] at hk
    have hs : (L_river_find_1 place r).step (e, (k : Int)) = if 0 ≤ place ∧ place < e + x.Length then some (.inr (.inr (⟨x, k, place, r.Shoals⟩, true))) else some (.inl (e + x.Length, ((k + 1 : Nat) : Int))) := by
      simp only [L_river_find_1, Int.ofNat_lt, hl, decide_true, cond_true, idx?_nat hl, Option.bind_some, hg]
      rw [wr_in (n := e + x.Length) (by omega) (by omega), wr_nat (by omega)]
      by_cases c1 : 0 ≤ place
      · by_cases c2 : place < e + x.Length <;> simp [c1, c2]
      · simp [c1]
    have ih := find_loop r place m (k + 1) (e + x.Length) hd (fun y hy => hx y (by simp [hy])) (by omega) (by omega) (by omega)
    rw [loopC_eq, hs, findGo]
    by_cases c : 0 ≤ place ∧ place < e + x.Length
    · rw [if_pos c, if_pos c]
    · rw [if_neg c, if_neg c]; exact ih
def noSite : Triver_site := ⟨⟨0, 0, ⟨0, 0⟩, [], 0, ⟨0, 0⟩, 0⟩, 0, 0, []⟩
theorem find_eq {r : TRiver} {place : Int} (hr : ∀ x ∈ r.Reaches, 0 ≤ x.Length ∧ x.Length ≤ 5000) (hl : r.Reaches.length ≤ 1000) :
    F_river_find (r, place) = some (match findGo place r.Shoals r.Reaches 0 0 with | some s => (s, true) | none => (noSite, false)) := by
  unfold F_river_find
  simp only
  rw [show ((0 : Int), (0 : Int)) = ((0 : Int), ((0 : Nat) : Int)) from rfl, find_loop r place r.Reaches 0 0 rfl hr (by omega) (by omega) (by omega)]
  cases findGo place r.Shoals r.Reaches 0 0 with
  | none => rfl
  | some s => rfl
theorem tot_nonneg : ∀ {m : List TReach}, (∀ x ∈ m, 0 ≤ x.Length ∧ x.Length ≤ 5000) → 0 ≤ tot m
  | [], _ => by simp [tot]
  | x :: m, h => by
    have h0 := h x (by simp)
    have := tot_nonneg (m := m) fun y hy => h y (by simp [hy])
    rw [tot]
    omega
theorem findGo_some {place : Int} {sh : List TShoal} : ∀ {m : List TReach} {e : Int} {k : Nat}, (∀ x ∈ m, 0 ≤ x.Length ∧ x.Length ≤ 5000) → (0 ≤ place → e ≤ place) → ((findGo place sh m e k).isSome = true ↔ 0 ≤ place ∧ place < e + tot m)
  | [], e, k, _, h => by
    rw [findGo, tot]
    constructor
    · intro h; cases h
    · rintro ⟨h1, h2⟩; have := h h1; omega
  | x :: m, e, k, hx, h => by
    have hx0 := hx x (by simp)
    have ht := tot_nonneg fun y (hy : y ∈ m) => hx y (by simp [hy])
    rw [findGo, tot]
    by_cases c : 0 ≤ place ∧ place < e + x.Length
    · rw [if_pos c]
      exact ⟨fun _ => ⟨c.1, by omega⟩, fun _ => rfl⟩
    · rw [if_neg c, findGo_some (e := e + x.Length) (fun y hy => hx y (by simp [hy])) (by intro hp; have := h hp; omega), Int.add_assoc]

def shoalOk (r : TRiver) (s : TShoal) : Bool := inB s.Place 0 (tot r.Reaches - 1) && (inB s.Sounded (-400) 400 && (vB s.Bed 0 10000 && vB s.Grow (-500) 500))
theorem validShoal_eq {r : TRiver} {s : TShoal} (hr : ∀ x ∈ r.Reaches, 0 ≤ x.Length ∧ x.Length ≤ 5000) (hl : r.Reaches.length ≤ 1000) : F_river_validShoal (r, s) = some (shoalOk r s) := by
  have hf := findGo_some (place := s.Place) (sh := r.Shoals) (e := 0) (k := 0) hr (by omega)
  have hf : (findGo s.Place r.Shoals r.Reaches 0 0).isSome = inB s.Place 0 (tot r.Reaches - 1) := by
    rw [Bool.eq_iff_iff, hf, inB_iff]; omega
  simp only [F_river_validShoal, find_eq hr hl, Option.bind_some, within1, valid_eq, bif_and, shoalOk, ← hf]
  cases findGo s.Place r.Shoals r.Reaches 0 0 <;> rfl

theorem reachOk_len {x : TReach} (h : reachOk x = true) : 0 ≤ x.Length ∧ x.Length ≤ 5000 := by
  simp only [reachOk, Bool.and_eq_true, inB_iff] at h
  omega
def riverOk (r : TRiver) : Bool := inB r.Reaches.length 1 20 && (r.Reaches.all reachOk && (decide (r.Shoals.length ≤ 40) && r.Shoals.all (shoalOk r)))
theorem Check_eq (r : TRiver) : F_river_Check r = some (if riverOk r then 0 else 2) := by
  unfold F_river_Check
  simp only [within1, Option.bind_some]
  cases h1 : inB r.Reaches.length 1 20 with
  | false => simp [riverOk, h1]
  | true =>
    have hl := inB_iff.1 h1
    simp only [Bool.not_true, cond_false]
    rw [every_Reach (q := reachOk) (fun x _ => validReach_eq x) (by omega)]
    cases h2 : r.Reaches.all reachOk with
    | false => simp [riverOk, h1, h2]
    | true =>
      have hr : ∀ x ∈ r.Reaches, 0 ≤ x.Length ∧ x.Length ≤ 5000 := fun x hx => reachOk_len (List.all_eq_true.1 h2 x hx)
      simp only [Option.bind_some, Bool.not_true, cond_false]
      by_cases h3 : r.Shoals.length ≤ 40
      · rw [every_Shoal (q := shoalOk r) (fun x _ => by simp only [F_river_Check_1, validShoal_eq hr (by omega), Option.bind_some]) (by omega)]
        simp only [show decide ((r.Shoals.length : Int) > 40) = false by simp; omega, cond_false, Option.bind_some, riverOk, h1, h2, h3, decide_true, Bool.true_and]
        cases r.Shoals.all (shoalOk r) <;> rfl
      · simp only [show decide ((r.Shoals.length : Int) > 40) = true by simp; omega, cond_true, riverOk, h1, h2, h3, decide_false, Bool.true_and, Bool.false_and]
        rfl

theorem tot_bound : ∀ {m : List TReach}, (∀ x ∈ m, 0 ≤ x.Length ∧ x.Length ≤ 5000) → 0 ≤ tot m ∧ tot m ≤ 5000 * m.length
  | [], _ => by simp [tot]
  | x :: m, h => by
    have h0 := h x (by simp)
    have := tot_bound (m := m) fun y hy => h y (by simp [hy])
    simp only [tot, List.length_cons]
    omega
theorem places_loop (r : TRiver) : ∀ (m : List TReach) (k : Nat) (e : Int), r.Reaches.drop k = m → (∀ x ∈ m, 0 ≤ x.Length ∧ x.Length ≤ 5000) → 0 ≤ e → e ≤ 5000 * k → k + m.length ≤ 1000000 →
    loopC (L_thalwegref01_Places_1 r).step (e, (k : Int)) = some (e + tot m)
  | [], k, e, h, _, _, _, _ => by
    have := drop_nil h
    rw [loopC_eq]
    simp [L_thalwegref01_Places_1, show ¬ k < r.Reaches.length by omega, tot]
  | x :: m, k, e, h, hx, h0, h1, hk => by
    obtain ⟨hl, hg, hd⟩ := drop_cons h
    have hx0 := hx x (by simp)
    simp only [List.length_cons] at hk
    have hs : (L_thalwegref01_Places_1 r).step (e, (k : Int)) = some (.inl (e + x.Length, ((k + 1 : Nat) : Int))) := by
      simp only [L_thalwegref01_Places_1, Int.ofNat_lt, hl, decide_true, cond_true, idx?_nat hl, Option.bind_some, hg]
      rw [wr_in (n := e + x.Length) (by omega) (by omega), wr_nat (by omega)]
    rw [loopC_eq, hs, tot]
    simp only
    rw [places_loop r m (k + 1) (e + x.Length) hd (fun y hy => hx y (by simp [hy])) (by omega) (by omega) (by omega), Int.add_assoc]
theorem Places_eq {r : TRiver} (hr : ∀ x ∈ r.Reaches, 0 ≤ x.Length ∧ x.Length ≤ 5000) (hl : r.Reaches.length ≤ 1000) : F_thalwegref01_Places r = some (tot r.Reaches) := by
  unfold F_thalwegref01_Places
  simp only
  rw [show ((0 : Int), (0 : Int)) = ((0 : Int), ((0 : Nat) : Int)) from rfl, places_loop r r.Reaches 0 0 rfl hr (by omega) (by omega) (by omega), Int.zero_add]
  rfl
theorem four {α : Type} (a b c d : Bool) (x y : α) : (bif (!a) then some y else bif (!b) then some y else bif (!c) then some y else bif (!d) then some y else some x) = some (if (a && (c && (b && d))) = true then x else y) := by
  cases a <;> cases b <;> cases c <;> cases d <;> rfl
theorem refRiver_eq (r : TRiver) : F_thalwegref01_River r = some (riverOk r) := by
  unfold F_thalwegref01_River
  simp only [In_eq, Option.bind_some]
  cases h1 : inB r.Reaches.length 1 20 with
  | false => simp [riverOk, h1]
  | true =>
    have hl := inB_iff.1 h1
    simp only [Bool.not_true, cond_false]
    by_cases h3 : r.Shoals.length ≤ 40
    · simp only [show decide ((r.Shoals.length : Int) > 40) = false by simp; omega, cond_false]
      rw [show (0 : Int) = ((0 : Nat) : Int) from rfl, loop_list r.Reaches (fun k => (k : Int)) reachOk (e := .inl ()) (f := .inr false)]
      · cases h2 : r.Reaches.all reachOk with
        | false => simp [riverOk, h2]
        | true =>
          have hr : ∀ x ∈ r.Reaches, 0 ≤ x.Length ∧ x.Length ≤ 5000 := fun x hx => reachOk_len (List.all_eq_true.1 h2 x hx)
          have hb := tot_bound hr
          simp only [if_true, Option.bind_some]
          rw [loop_list r.Shoals (fun k => (k : Int)) (shoalOk r) (e := .inl ()) (f := .inr false)]
          · simp only [riverOk, h1, h2, h3, decide_true, Bool.true_and]
            cases r.Shoals.all (shoalOk r) <;> rfl
          · intro k hk
            simp only [L_thalwegref01_River_2, Int.ofNat_lt, hk, decide_true, cond_true, idx?_nat hk, Option.bind_some, Places_eq hr (by omega), In_eq, rvalid_eq, shoalOk]
            rw [wr_nat (by omega), wr_in (n := tot r.Reaches - 1) (by omega) (by omega)]
            exact four _ _ _ _ _ _
          · simp [L_thalwegref01_River_2]
      · intro k hk
        simp only [L_thalwegref01_River_1, Int.ofNat_lt, hk, decide_true, cond_true, idx?_nat hk, Option.bind_some, refReach_eq]
        rw [wr_nat (by omega)]
        cases reachOk r.Reaches[k] <;> rfl
      · simp [L_thalwegref01_River_1]
    · simp only [show decide ((r.Shoals.length : Int) > 40) = true by simp; omega, cond_true, riverOk, h1, h3, decide_false, Bool.true_and, Bool.false_and, Bool.and_false]
end Go.Ev
/- Chapter 1: copies, what is large, levels. -/
set_option linter.unusedVariables false
set_option linter.unusedSimpArgs false
namespace Go.Ev
set_option maxHeartbeats 1000000

def largeOf (r : TRiver) : Bool := decide (r.Reaches.length > 25) || (decide (r.Shoals.length > 50) || !(r.Reaches.all fun x => decide (x.Curve.length ≤ 40)))
end Go.Ev
/- Chapter 1: levels. -/
set_option linter.unusedVariables false
set_option linter.unusedSimpArgs false
namespace Go.Ev
set_option maxHeartbeats 1000000

theorem tdiv_tmod {a b : Int} (hb : 0 < b) : b * a.tdiv b + a.tmod b = a ∧ -b < a.tmod b ∧ a.tmod b < b ∧ (0 ≤ a → 0 ≤ a.tmod b) ∧ (a ≤ 0 → a.tmod b ≤ 0) := by
  refine ⟨Int.mul_tdiv_add_tmod a b, ?_, ?_, ?_, ?_⟩
  · rcases Int.le_total 0 a with h | h
    · have := Int.tmod_nonneg b h; omega
    · have h1 := Int.tmod_nonneg b (a := -a) (by omega)
      have h2 := Int.tmod_lt_of_pos (-a) hb
      rw [Int.neg_tmod] at h1 h2; omega
  · exact Int.tmod_lt_of_pos a hb
  · exact fun h => Int.tmod_nonneg b h
  · intro h
    have h1 := Int.tmod_nonneg b (a := -a) (by omega)
    rw [Int.neg_tmod] at h1; omega
theorem tdiv_le {a b : Int} (hb : 0 < b) : -a.natAbs ≤ a.tdiv b ∧ a.tdiv b ≤ a.natAbs := by
  have h : (a.tdiv b).natAbs ≤ a.natAbs := by
    rw [Int.natAbs_tdiv]; exact Nat.div_le_self _ _
  omega
theorem div_of {a b q r : Int} (hb : 0 < b) (h : r + b * q = a) (h0 : 0 ≤ r) (h1 : r < b) : a / b = q := ((Int.ediv_emod_unique hb).2 ⟨h, h0, h1⟩).1

theorem Down_eq {a b : Int} (hb : 0 < b) (ha : a.natAbs ≤ 4611686018427387904) : F_numbers_Down (a, b) = some (a / b) := by
  obtain ⟨h1, h2, h3, h4, h5⟩ := tdiv_tmod (a := a) hb
  have h6 := tdiv_le (a := a) hb
  simp only [F_numbers_Down, nz_of (show b ≠ 0 by omega), Option.bind_some]
  rw [wr_in (n := a.tdiv b) (by omega) (by omega)]
  by_cases c : a.tmod b < 0
  · rw [wr_in (n := a.tdiv b - 1) (by omega) (by omega), div_of (q := a.tdiv b - 1) (r := a.tmod b + b) hb (by rw [Int.mul_sub]; omega) (by omega) (by omega)]
    simp [c]
  · rw [div_of (q := a.tdiv b) (r := a.tmod b) hb (by omega) (by omega) (by omega)]
    simp [c]
theorem div_bound {a b : Int} (hb : 0 < b) : -a.natAbs ≤ a / b ∧ a / b ≤ a.natAbs := by
  have := Int.natAbs_ediv_le_natAbs a b
  omega
theorem Up_eq {a b : Int} (hb : 0 < b) (ha : a.natAbs ≤ 4611686018427387904) : F_numbers_Up (a, b) = some (-((-a) / b)) := by
  have h := div_bound (a := -a) hb
  simp only [F_numbers_Up]
  rw [wr_in (n := 0 - a) (by omega) (by omega), show 0 - a = -a by omega, Down_eq hb (by omega)]
  simp only [Option.bind_some]
  rw [wr_in (by omega) (by omega)]
  simp
theorem Floor_eq {a b : Int} (hb : 0 < b) (ha : a.natAbs ≤ 4611686018427387904) : F_thalwegref01_Floor (a, b) = some (a / b) := by
  obtain ⟨h1, h2, h3, h4, h5⟩ := tdiv_tmod (a := a) hb
  have h6 := tdiv_le (a := a) hb
  have hq : a.tdiv b * b = a - a.tmod b := by rw [Int.mul_comm]; omega
  have hr : (a.tmod b).natAbs ≤ a.natAbs := by rw [Int.natAbs_tmod]; exact Nat.mod_le _ _
  simp only [F_thalwegref01_Floor, nz_of (show b ≠ 0 by omega), Option.bind_some]
  rw [wr_in (n := a.tdiv b) (by omega) (by omega), hq, wr_in (n := a - a.tmod b) (by omega) (by omega)]
  by_cases c : a.tmod b < 0
  · rw [wr_in (n := a.tdiv b - 1) (by omega) (by omega), div_of (q := a.tdiv b - 1) (r := a.tmod b + b) hb (by rw [Int.mul_sub]; omega) (by omega) (by omega)]
    simp [show a - a.tmod b > a by omega]
  · rw [div_of (q := a.tdiv b) (r := a.tmod b) hb (by omega) (by omega) (by omega)]
    simp [show ¬ (a - a.tmod b > a) by omega]
theorem Ceil_eq {a b : Int} (hb : 0 < b) (ha : a.natAbs ≤ 4611686018427387904) : F_thalwegref01_Ceil (a, b) = some (-((-a) / b)) := by
  obtain ⟨h1, h2, h3, h4, h5⟩ := tdiv_tmod (a := a) hb
  have h6 := tdiv_le (a := a) hb
  have hq : a.tdiv b * b = a - a.tmod b := by rw [Int.mul_comm]; omega
  have hr : (a.tmod b).natAbs ≤ a.natAbs := by rw [Int.natAbs_tmod]; exact Nat.mod_le _ _
  simp only [F_thalwegref01_Ceil, nz_of (show b ≠ 0 by omega), Option.bind_some]
  rw [wr_in (n := a.tdiv b) (by omega) (by omega), hq, wr_in (n := a - a.tmod b) (by omega) (by omega)]
  by_cases c : 0 < a.tmod b
  · rw [wr_in (n := a.tdiv b + 1) (by omega) (by omega), div_of (a := -a) (q := -(a.tdiv b + 1)) (r := b - a.tmod b) hb (by rw [Int.mul_neg, Int.mul_add]; omega) (by omega) (by omega)]
    simp [show a - a.tmod b < a by omega]
  · rw [div_of (a := -a) (q := -(a.tdiv b)) (r := -a.tmod b) hb (by rw [Int.mul_neg]; omega) (by omega) (by omega)]
    simp [show ¬ (a - a.tmod b < a) by omega]

/-- The first row whose flow is not less. -/
def firstAt (l : List TRateRow) (n : Int) : Nat := l.findIdx fun x => decide (n ≤ x.Flow)
theorem first_lt {l : List TRateRow} {n : Int} {k : Nat} (h : k < firstAt l n) (hk : k < l.length) : l[k].Flow < n := by
  have := List.not_of_lt_findIdx h
  simp at this
  exact this
theorem first_at {l : List TRateRow} {n : Int} (h : firstAt l n < l.length) : n ≤ l[firstAt l n].Flow := by
  have := List.findIdx_getElem (p := fun x : TRateRow => decide (n ≤ x.Flow)) (xs := l) (w := h)
  exact of_decide_eq_true this
theorem first_le (l : List TRateRow) (n : Int) : firstAt l n ≤ l.length := List.findIdx_le_length
theorem index_eq {l : List TRateRow} {n : Int} {g : FuncId} {caps : List V} (hl : l.length ≤ 4611686018427387904) : F_slices_IndexFunc_L_RateRow_RateRow (l, (fun q => F_river_curveAt_1 (q, n)), g, caps) = some (if firstAt l n < l.length then (firstAt l n : Int) else -1) := by
  unfold F_slices_IndexFunc_L_RateRow_RateRow
  simp only
  have hle := first_le l n
  by_cases c : firstAt l n < l.length
  · rw [show (0 : Int) = ((0 : Nat) : Int) from rfl, loop_run (fun k : Nat => (k : Int)) (firstAt l n) (e := .inr (firstAt l n : Int))]
    · simp [c]
    · intro k hk
      have hkl : k < l.length := by omega
      have := first_lt hk hkl
      simp only [L_slices_IndexFunc_L_RateRow_RateRow_1, Int.ofNat_lt, hkl, decide_true, cond_true, idx?_nat hkl, Option.bind_some, F_river_curveAt_1, show decide (n ≤ l[k].Flow) = false by simp; omega, cond_false]
      rw [wr_nat (by omega)]
    · have := first_at c
      simp only [L_slices_IndexFunc_L_RateRow_RateRow_1, Int.ofNat_lt, c, decide_true, cond_true, idx?_nat c, Option.bind_some, F_river_curveAt_1, this]
  · rw [show (0 : Int) = ((0 : Nat) : Int) from rfl, loop_run (fun k : Nat => (k : Int)) l.length (e := .inl ())]
    · simp [c]
    · intro k hkl
      have := first_lt (n := n) (show k < firstAt l n by omega) hkl
      simp only [L_slices_IndexFunc_L_RateRow_RateRow_1, Int.ofNat_lt, hkl, decide_true, cond_true, idx?_nat hkl, Option.bind_some, F_river_curveAt_1, show decide (n ≤ l[k].Flow) = false by simp; omega, cond_false]
      rw [wr_nat (by omega)]
    · simp [L_slices_IndexFunc_L_RateRow_RateRow_1]

theorem flows_up {l : List TRateRow} (h : (pairs l).all pairOk = true) : ∀ {a b : Nat} (hab : a < b) (hb : b < l.length), l[a].Flow < l[b].Flow := by
  have one : ∀ a (ha : a + 1 < l.length), l[a].Flow < l[a + 1].Flow := by
    intro a ha
    have hp : a < (pairs l).length := by rw [pairs_length]; omega
    have := List.all_eq_true.1 h _ (List.getElem_mem hp)
    rw [pairs_get] at this
    simp only [pairOk, Bool.and_eq_true, decide_eq_true_eq] at this
    exact this.1
  intro a b hab hb
  induction b with
  | zero => omega
  | succ b ih =>
    have h1 := one b hb
    by_cases c : a = b
    · subst c; exact h1
    · have := ih (by omega) (by omega)
      omega
theorem levels_up {l : List TRateRow} (h : (pairs l).all pairOk = true) {a : Nat} (ha : a + 1 < l.length) : l[a].Level ≤ l[a + 1].Level := by
  have hp : a < (pairs l).length := by rw [pairs_length]; omega
  have := List.all_eq_true.1 h _ (List.getElem_mem hp)
  rw [pairs_get] at this
  simp only [pairOk, Bool.and_eq_true, decide_eq_true_eq] at this
  exact this.2
theorem row_in {l : List TRateRow} (h : l.all rowOk = true) {a : Nat} (ha : a < l.length) : 0 ≤ l[a].Flow ∧ l[a].Flow ≤ 10000000000 ∧ 0 ≤ l[a].Level ∧ l[a].Level ≤ 10000 := by
  have := List.all_eq_true.1 h _ (List.getElem_mem ha)
  simp only [rowOk, Bool.and_eq_true, inB_iff] at this
  omega

/-- The level at a flow, rounded down, or up. -/
def divB (up : Bool) (a b : Int) : Int := if up then -((-a) / b) else a / b
def levelOf (l : List TRateRow) (n : Int) (up : Bool) : Int :=
  let i := firstAt l n
  match l[i]?, l[i - 1]? with
  | some y, some x => if i = 0 then y.Level else x.Level + divB up ((y.Level - x.Level) * (n - x.Flow)) (y.Flow - x.Flow)
  | none, some x => x.Level
  | _, none => 0

theorem mul_small {a b : Int} (ha : 0 ≤ a) (ha' : a ≤ 10000) (hb : 0 ≤ b) (hb' : b ≤ 10000000000) : 0 ≤ a * b ∧ a * b ≤ 100000000000000 := by
  refine ⟨Int.mul_nonneg ha hb, ?_⟩
  have h1 : a * b ≤ 10000 * b := Int.mul_le_mul_of_nonneg_right ha' hb
  omega
theorem div_small {a b : Int} (hb : 0 < b) (h0 : 0 ≤ a) (h1 : a ≤ 100000000000000) (up : Bool) : -100000000000000 ≤ divB up a b ∧ divB up a b ≤ 100000000000000 := by
  unfold divB
  have h2 := div_bound (a := a) hb
  have h3 := div_bound (a := -a) hb
  split <;> omega
theorem div_exact {a b : Int} (hb : 0 < b) (up : Bool) : divB up (a * b) b = a := by
  unfold divB
  split
  · rw [← Int.neg_mul, Int.mul_ediv_cancel _ (by omega)]; omega
  · exact Int.mul_ediv_cancel _ (by omega)

theorem curveAt_eq {l : List TRateRow} {n : Int} {p : Int × Int → Option Int} {g : FuncId} {caps : List V} {up : Bool} (hc : curveOk l = true) (hp : ∀ a b : Int, 0 < b → a.natAbs ≤ 4611686018427387904 → p (a, b) = some (divB up a b)) : F_river_curveAt (l, n, p, g, caps) = some (levelOf l n up) := by
  simp only [curveOk, Bool.and_eq_true, inB_iff] at hc
  obtain ⟨hl, hps, hrs⟩ := hc
  have hle := first_le l n
  simp only [F_river_curveAt]
  rw [index_eq (by omega)]
  simp only [Option.bind_some]
  by_cases c : firstAt l n < l.length
  · rw [if_pos c]
    simp only [show decide ((firstAt l n : Int) < 0) = false by simp, cond_false]
    by_cases c0 : firstAt l n = 0
    · rw [c0]
      simp only [show (((0 : Nat) : Int) == 0) = true by decide, cond_true]
      rw [show (0 : Int) = ((0 : Nat) : Int) from rfl, idx?_nat (show 0 < l.length by omega)]
      simp [levelOf, c0, show 0 < l.length by omega]
    · simp only [show ((firstAt l n : Int) == 0) = false by simp; omega, cond_false]
      have ci : firstAt l n - 1 < l.length := by omega
      rw [wr_in (n := (firstAt l n : Int) - 1) (by omega) (by omega), show ((firstAt l n : Int) - 1) = ((firstAt l n - 1 : Nat) : Int) by omega, idx?_nat ci, idx?_nat c]
      simp only [Option.bind_some, levelOf, List.getElem?_eq_getElem c, List.getElem?_eq_getElem ci, c0, if_false]
      have r1 := row_in hrs ci
      have r2 := row_in hrs c
      have f1 := first_lt (n := n) (show firstAt l n - 1 < firstAt l n by omega) ci
      have f2 := first_at c
      have lv := levels_up hps (a := firstAt l n - 1) (by omega)
      simp only [show firstAt l n - 1 + 1 = firstAt l n by omega] at lv
      rw [wr_in (n := l[firstAt l n].Level - l[firstAt l n - 1].Level) (by omega) (by omega), wr_in (n := n - l[firstAt l n - 1].Flow) (by omega) (by omega), wr_in (n := l[firstAt l n].Flow - l[firstAt l n - 1].Flow) (by omega) (by omega)]
      have hm := mul_small (a := l[firstAt l n].Level - l[firstAt l n - 1].Level) (b := n - l[firstAt l n - 1].Flow) (by omega) (by omega) (by omega) (by omega)
      rw [wr_in (by omega) (by omega), hp _ _ (by omega) (by omega)]
      have hd := div_small (b := l[firstAt l n].Flow - l[firstAt l n - 1].Flow) (by omega) hm.1 hm.2 up
      simp only [Option.bind_some]
      rw [wr_in (by omega) (by omega)]
  · rw [if_neg c]
    have ce : firstAt l n = l.length := by omega
    have ci : l.length - 1 < l.length := by omega
    simp only [show decide ((-1 : Int) < 0) = true by decide, cond_true]
    rw [wr_in (by omega) (by omega), show ((l.length : Int) - 1) = ((l.length - 1 : Nat) : Int) by omega, idx?_nat ci]
    simp [levelOf, ce, ci]

theorem refCurve_eq {x : TReach} {n : Int} {up : Bool} (hc : curveOk x.Curve = true) : F_thalwegref01_Curve (x, n, up) = some (levelOf x.Curve n up) := by
  simp only [curveOk, Bool.and_eq_true, inB_iff] at hc
  obtain ⟨hl, hps, hrs⟩ := hc
  have hle := first_le x.Curve n
  have c1 : x.Curve.length - 1 < x.Curve.length := by omega
  have c0 : 0 < x.Curve.length := by omega
  simp only [F_thalwegref01_Curve]
  rw [wr_in (n := (x.Curve.length : Int) - 1) (by omega) (by omega), show ((x.Curve.length : Int) - 1) = ((x.Curve.length - 1 : Nat) : Int) by omega, idx?_nat c1]
  rw [show (0 : Int) = ((0 : Nat) : Int) from rfl, idx?_nat c0]
  simp only [Option.bind_some]
  by_cases h0 : n ≤ x.Curve[0].Flow
  · have hi : firstAt x.Curve n = 0 := by
      rcases Nat.eq_zero_or_pos (firstAt x.Curve n) with e | e
      · exact e
      · have := first_lt e c0; omega
    simp [h0, levelOf, hi, c0]
  · simp only [h0, decide_false, cond_false]
    have hi : 0 < firstAt x.Curve n := by
      rcases Nat.eq_zero_or_pos (firstAt x.Curve n) with e | e
      · have := first_at (l := x.Curve) (n := n) (by omega); simp only [e] at this; omega
      · exact e
    by_cases hL : n ≥ x.Curve[x.Curve.length - 1].Flow
    · simp only [hL, decide_true, cond_true, Option.some.injEq]
      by_cases c : firstAt x.Curve n < x.Curve.length
      · have f2 := first_at c
        have he : firstAt x.Curve n = x.Curve.length - 1 := by
          rcases Nat.lt_or_ge (firstAt x.Curve n) (x.Curve.length - 1) with e | e
          · have := flows_up hps e c1; omega
          · omega
        have ci : firstAt x.Curve n - 1 < x.Curve.length := by omega
        have f1 := first_lt (n := n) (show firstAt x.Curve n - 1 < firstAt x.Curve n by omega) ci
        simp only [levelOf, List.getElem?_eq_getElem c, List.getElem?_eq_getElem ci, show ¬ firstAt x.Curve n = 0 by omega, if_false]
        have hn : n = x.Curve[firstAt x.Curve n].Flow := by simp only [he] at f2 ⊢; omega
        have f3 : x.Curve[firstAt x.Curve n - 1].Flow < x.Curve[firstAt x.Curve n].Flow := by omega
        have hx := div_exact (a := x.Curve[firstAt x.Curve n].Level - x.Curve[firstAt x.Curve n - 1].Level) (b := x.Curve[firstAt x.Curve n].Flow - x.Curve[firstAt x.Curve n - 1].Flow) (by omega) up
        rw [show n - x.Curve[firstAt x.Curve n - 1].Flow = x.Curve[firstAt x.Curve n].Flow - x.Curve[firstAt x.Curve n - 1].Flow by omega, hx]
        simp only [he]
        omega
      · have ce : firstAt x.Curve n = x.Curve.length := by omega
        simp [levelOf, ce, c1]
    · simp only [hL, decide_false, cond_false]
      have c : firstAt x.Curve n < x.Curve.length := by
        rcases Nat.lt_or_ge (firstAt x.Curve n) x.Curve.length with e | e
        · exact e
        · have := first_lt (n := n) (show x.Curve.length - 1 < firstAt x.Curve n by omega) c1; omega
      have ci : firstAt x.Curve n - 1 < x.Curve.length := by omega
      rw [loop_run (fun k : Nat => (k : Int)) (firstAt x.Curve n - 1) (e := ((firstAt x.Curve n - 1 : Nat) : Int))]
      · simp only [Option.bind_some, idx?_nat ci]
        rw [wr_nat (by omega), show firstAt x.Curve n - 1 + 1 = firstAt x.Curve n by omega, idx?_nat c]
        simp only [Option.bind_some, levelOf, List.getElem?_eq_getElem c, List.getElem?_eq_getElem ci, show ¬ firstAt x.Curve n = 0 by omega, if_false]
        have r1 := row_in hrs ci
        have r2 := row_in hrs c
        have f1 := first_lt (n := n) (show firstAt x.Curve n - 1 < firstAt x.Curve n by omega) ci
        have f2 := first_at c
        have lv := levels_up hps (a := firstAt x.Curve n - 1) (by omega)
        simp only [show firstAt x.Curve n - 1 + 1 = firstAt x.Curve n by omega] at lv
        rw [wr_in (n := x.Curve[firstAt x.Curve n].Level - x.Curve[firstAt x.Curve n - 1].Level) (by omega) (by omega), wr_in (n := n - x.Curve[firstAt x.Curve n - 1].Flow) (by omega) (by omega), wr_in (n := x.Curve[firstAt x.Curve n].Flow - x.Curve[firstAt x.Curve n - 1].Flow) (by omega) (by omega)]
        have hm := mul_small (a := x.Curve[firstAt x.Curve n].Level - x.Curve[firstAt x.Curve n - 1].Level) (b := n - x.Curve[firstAt x.Curve n - 1].Flow) (by omega) (by omega) (by omega) (by omega)
        rw [Int.mul_comm (n - x.Curve[firstAt x.Curve n - 1].Flow), wr_in (n := (x.Curve[firstAt x.Curve n].Level - x.Curve[firstAt x.Curve n - 1].Level) * (n - x.Curve[firstAt x.Curve n - 1].Flow)) (by omega) (by omega), Ceil_eq (by omega) (by omega), Floor_eq (by omega) (by omega)]
        have hd := div_small (b := x.Curve[firstAt x.Curve n].Flow - x.Curve[firstAt x.Curve n - 1].Flow) (by omega) hm.1 hm.2 up
        cases up with
        | true => simp only [divB, if_true] at hd ⊢; simp only [cond_true, Option.bind_some]; rw [wr_in (by omega) (by omega)]
        | false => simp only [divB, Bool.false_eq_true, if_false] at hd ⊢; simp only [cond_false, Option.bind_some]; rw [wr_in (by omega) (by omega)]
      · intro k hk
        have hk1 : k + 1 < x.Curve.length := by omega
        have := first_lt (n := n) (show k + 1 < firstAt x.Curve n by omega) hk1
        simp only [L_thalwegref01_Curve_1]
        rw [wr_nat (by omega), idx?_nat hk1]
        simp only [Option.bind_some, this, decide_true, cond_true]
      · have := first_at c
        simp only [L_thalwegref01_Curve_1]
        rw [wr_nat (by omega), show firstAt x.Curve n - 1 + 1 = firstAt x.Curve n by omega, idx?_nat c]
        simp only [Option.bind_some, show decide (x.Curve[firstAt x.Curve n].Flow < n) = false by simp; omega, cond_false]
end Go.Ev
/- Chapter 1: the law RiverChecks is true. -/
set_option linter.unusedVariables false
set_option linter.unusedSimpArgs false
namespace Go.Ev
set_option maxHeartbeats 1000000

def levB (x : TReach) (b : TBounds) : TBounds := ⟨minmax true (levelOf x.Curve b.Low false) x.Weir, minmax true (levelOf x.Curve b.High true) x.Weir⟩
theorem minmax_comm (a b : Int) : minmax true a b = minmax true b a := by
  simp only [minmax, if_true]
  split <;> split <;> omega
theorem levelAt_eq {x : TReach} {b : TBounds} (h : curveOk x.Curve = true) : F_river_levelAt (x, b) = some (levB x b) := by
  simp only [F_river_levelAt]
  rw [curveAt_eq (up := false) h (fun a b hb ha => by simpa [divB] using Down_eq hb ha), curveAt_eq (up := true) h (fun a b hb ha => by simpa [divB] using Up_eq hb ha)]
  rfl
theorem refLevel_eq {x : TReach} {b : TBounds} (h : curveOk x.Curve = true) : F_thalwegref01_Level (x, b) = some (levB x b) := by
  simp only [F_thalwegref01_Level, refCurve_eq h, Option.bind_some, levB]
  rw [minmax_comm x.Weir, minmax_comm x.Weir]
theorem reachOk_curve {x : TReach} (h : reachOk x = true) : curveOk x.Curve = true := by
  simp only [reachOk, Bool.and_eq_true] at h
  exact h.2.2.2.2.2
end Go.Ev
/- Chapter 1: forecasts, and what a river does with them. -/
set_option linter.unusedVariables false
set_option linter.unusedSimpArgs false
namespace Go.Ev
set_option maxHeartbeats 1000000

theorem every_Bounds {l : List TBounds} {p : TBounds → Option Bool} {q : TBounds → Bool} {g : FuncId} {caps : List V} (hp : ∀ x ∈ l, p x = some (q x)) (hl : l.length ≤ 4611686018427387904) : F_numbers_Every_Bounds (l, p, g, caps) = some (l.all q) := by
  unfold F_numbers_Every_Bounds
  simp only
  rw [show (0 : Int) = ((0 : Nat) : Int) from rfl, loop_list l (fun k => (k : Int)) q (e := .inl ()) (f := .inr false)]
  · cases l.all q <;> rfl
  · intro k hk
    simp only [L_numbers_Every_Bounds_1, Int.ofNat_lt, hk, decide_true, cond_true, idx?_nat hk, Option.bind_some, hp _ (List.getElem_mem hk), wr_nat (show k < 9223372036854775807 by omega)]
    cases q l[k] <;> rfl
  · simp [L_numbers_Every_Bounds_1]
theorem every_LBounds {l : List (List TBounds)} {p : List TBounds → Option Bool} {q : List TBounds → Bool} {g : FuncId} {caps : List V} (hp : ∀ x ∈ l, p x = some (q x)) (hl : l.length ≤ 4611686018427387904) : F_numbers_Every_L_Bounds (l, p, g, caps) = some (l.all q) := by
  unfold F_numbers_Every_L_Bounds
  simp only
  rw [show (0 : Int) = ((0 : Nat) : Int) from rfl, loop_list l (fun k => (k : Int)) q (e := .inl ()) (f := .inr false)]
  · cases l.all q <;> rfl
  · intro k hk
    simp only [L_numbers_Every_L_Bounds_1, Int.ofNat_lt, hk, decide_true, cond_true, idx?_nat hk, Option.bind_some, hp _ (List.getElem_mem hk), wr_nat (show k < 9223372036854775807 by omega)]
    cases q l[k] <;> rfl
  · simp [L_numbers_Every_L_Bounds_1]

def sideOk (l : List TBounds) : Bool := l.all fun b => vB b 0 10000000000
/-- The error of a forecast for a valid river. -/
def fcErr (r : TRiver) (sides : List (List TBounds)) : Int :=
  if sides.length ≠ r.Reaches.length then 4 else
  match sides with
  | [] => 4
  | s :: _ => if s.length = 0 then 4 else if !(sides.all fun x => decide (x.length = s.length)) then 4 else if s.length > 400 then 5 else if !(sides.all sideOk) then 2 else 0
def startErr (r : TRiver) (sides : List (List TBounds)) : Int := if riverOk r then fcErr r sides else 2

theorem len_beq {a b : Nat} : (((a : Int) == (b : Int)) : Bool) = decide (a = b) := by
  rw [Bool.eq_iff_iff]; simp; omega
theorem len_bne {a b : Nat} : (((a : Int) != (b : Int)) : Bool) = !decide (a = b) := by
  rw [bne, len_beq]
theorem checkForecast_eq {r : TRiver} {sides : List (List TBounds)} (hr : riverOk r = true) (hs : ∀ x ∈ sides, x.length ≤ 1000000) : F_river_checkForecast (r, sides) = some (fcErr r sides) := by
  have hl : 1 ≤ r.Reaches.length ∧ r.Reaches.length ≤ 20 := by
    simp only [riverOk, Bool.and_eq_true, inB_iff] at hr
    omega
  simp only [F_river_checkForecast, len_bne]
  by_cases h1 : sides.length = r.Reaches.length
  · simp only [h1, decide_true, Bool.not_true, cond_false, fcErr]
    cases sides with
    | nil => simp only [List.length_nil] at h1; omega
    | cons s m =>
      simp only [List.length_cons] at h1
      rw [show (0 : Int) = ((0 : Nat) : Int) from rfl, idx?_nat (show 0 < (s :: m).length by simp)]
      simp only [Option.bind_some, List.getElem_cons_zero, len_beq]
      by_cases h2 : s.length = 0
      · simp [h2, h1]
      · simp only [h2, decide_false, cond_false]
        rw [every_LBounds (q := fun x => decide (x.length = s.length)) (fun x _ => by simp only [F_river_checkForecast_1, len_beq]) (by simp; omega)]
        simp only [Option.bind_some]
        cases h3 : (s :: m).all fun x => decide (x.length = s.length) with
        | false => simp [h1, h2, h3]
        | true =>
          simp only [Bool.not_true, cond_false]
          by_cases h4 : s.length > 400
          · simp [h1, h2, h3, h4, show ((s.length : Int) > 400) by omega]
          · simp only [show decide ((s.length : Int) > 400) = false by simp; omega, cond_false]
            rw [every_LBounds (q := sideOk) (fun x hx => by
              simp only [F_river_checkForecast_3]
              rw [every_Bounds (q := fun b => vB b 0 10000000000) (fun b _ => by simp only [F_river_checkForecast_2, valid_eq, Option.bind_some]) (by have := hs x hx; omega)]
              rfl) (by simp; omega)]
            simp only [Option.bind_some]
            cases h5 : (s :: m).all sideOk <;> simp [h1, h2, h3, h4, h5]
  · simp [h1, fcErr]

theorem refStart_eq {r : TRiver} {sides : List (List TBounds)} (hs : ∀ x ∈ sides, x.length ≤ 1000000) (hn : sides.length ≤ 1000000) : F_thalwegref01_Start (r, sides) = some (startErr r sides) := by
  simp only [F_thalwegref01_Start, refRiver_eq, Option.bind_some, startErr]
  cases hr : riverOk r with
  | false => rfl
  | true =>
    have hl : 1 ≤ r.Reaches.length ∧ r.Reaches.length ≤ 20 := by
      simp only [riverOk, Bool.and_eq_true, inB_iff] at hr
      omega
    simp only [Bool.not_true, cond_false, len_bne, if_true]
    by_cases h1 : sides.length = r.Reaches.length
    · simp only [h1, decide_true, Bool.not_true, cond_false, fcErr]
      cases sides with
      | nil => simp only [List.length_nil] at h1; omega
      | cons s m =>
        simp only [List.length_cons] at h1
        rw [show (0 : Int) = ((0 : Nat) : Int) from rfl, idx?_nat (show 0 < (s :: m).length by simp)]
        simp only [Option.bind_some, List.getElem_cons_zero, len_beq]
        by_cases h2 : s.length = 0
        · simp [h2, h1]
        · simp only [h2, decide_false, cond_false]
          rw [loop_list (s :: m) (fun k => (k : Int)) (fun x => decide (x.length = s.length)) (e := .inl ()) (f := .inr 4)]
          · cases h3 : (s :: m).all fun x => decide (x.length = s.length) with
            | false => simp [h1, h2, h3]
            | true =>
              simp only [if_true, Option.bind_some]
              by_cases h4 : s.length > 400
              · simp [h1, h2, h3, h4, show ((s.length : Int) > 400) by omega]
              · simp only [show decide ((s.length : Int) > 400) = false by simp; omega, cond_false]
                rw [loop_list (s :: m) (fun k => (k : Int)) sideOk (e := .inl ()) (f := .inr 2)]
                · cases h5 : (s :: m).all sideOk <;> simp [h1, h2, h3, h4, h5]
                · intro k hk
                  simp only [L_thalwegref01_Start_3, Int.ofNat_lt, hk, decide_true, cond_true]
                  have hkl := hs _ (List.getElem_mem hk)
                  rw [show (0 : Int) = ((0 : Nat) : Int) from rfl, loop_list (s :: m)[k] (fun j => (j : Int)) (fun b => vB b 0 10000000000) (e := .inl ()) (f := .inr 2)]
                  · rw [wr_nat (by omega)]
                    have hq : sideOk (s :: m)[k] = (s :: m)[k].all fun b => vB b 0 10000000000 := rfl
                    rw [← hq]
                    cases h : sideOk (s :: m)[k] with
                    | true => rfl
                    | false => rfl
                  · intro j hj
                    simp only [L_thalwegref01_Start_2, idx?_nat hk, Option.bind_some, Int.ofNat_lt, hj, decide_true, cond_true, idx?_nat hj, rvalid_eq]
                    rw [wr_nat (by omega)]
                    cases vB (s :: m)[k][j] 0 10000000000 <;> rfl
                  · simp [L_thalwegref01_Start_2, idx?_nat hk]
                · simp [L_thalwegref01_Start_3]
          · intro k hk
            simp only [L_thalwegref01_Start_1, Int.ofNat_lt, hk, decide_true, cond_true, idx?_nat hk, Option.bind_some]
            rw [show (0 : Int) = ((0 : Nat) : Int) from rfl, idx?_nat (show 0 < (s :: m).length by simp), wr_nat (by omega)]
            simp only [Option.bind_some, List.getElem_cons_zero, len_bne]
            cases decide ((s :: m)[k].length = s.length) <;> rfl
          · simp [L_thalwegref01_Start_1]
    · simp [h1, fcErr]
end Go.Ev
/- Chapter 1: flows. -/
set_option linter.unusedVariables false
set_option linter.unusedSimpArgs false
namespace Go.Ev
set_option maxHeartbeats 1000000

def addB (a b : TBounds) : TBounds := ⟨a.Low + b.Low, a.High + b.High⟩
def sumB : List TBounds → TBounds
  | [] => ⟨0, 0⟩
  | a :: l => addB a (sumB l)
/-- Bounds from 0 to a number. -/
def upTo (n : Int) (b : TBounds) : Prop := 0 ≤ b.Low ∧ b.Low ≤ b.High ∧ b.High ≤ n
theorem sum_bound {n : Int} (hn : 0 ≤ n) : ∀ {l : List TBounds}, (∀ b ∈ l, upTo n b) → upTo (n * l.length) (sumB l)
  | [], _ => by simp [upTo, sumB]
  | a :: l, h => by
    obtain ⟨a1, a2, a3⟩ := h a (by simp)
    obtain ⟨b1, b2, b3⟩ := sum_bound hn (l := l) fun b hb => h b (by simp [hb])
    simp only [upTo, sumB, addB, List.length_cons] at *
    have e : n * ((l.length + 1 : Nat) : Int) = n * (l.length : Int) + n := by rw [Int.natCast_add, Int.mul_add]; simp
    rw [e]
    omega
theorem sum_loop (l : List TBounds) {n : Int} (hn : 0 ≤ n) (hn' : n ≤ 1000000000000) (hl : l.length ≤ 100000) : ∀ (m : List TBounds) (k : Nat) (a b : Int), l.drop k = m → (∀ x ∈ m, upTo n x) → 0 ≤ a → a ≤ n * k → 0 ≤ b → b ≤ n * k →
    loopC (L_numbers_Sum_1 l).step ((k : Int), a, b) = some (a + (sumB m).Low, b + (sumB m).High)
  | [], k, a, b, h, _, _, _, _, _ => by
    have := drop_nil h
    rw [loopC_eq]
    simp [L_numbers_Sum_1, show ¬ k < l.length by omega, sumB]
  | x :: m, k, a, b, h, hx, ha, ha', hb, hb' => by
    obtain ⟨hk, hg, hd⟩ := drop_cons h
    obtain ⟨x1, x2, x3⟩ := hx x (by simp)
    have hnk : n * (k : Int) ≤ 1000000000000 * 100000 := by
      have h1 : n * (k : Int) ≤ 1000000000000 * (k : Int) := Int.mul_le_mul_of_nonneg_right hn' (by omega)
      omega
    have e : n * ((k + 1 : Nat) : Int) = n * (k : Int) + n := by rw [Int.natCast_add, Int.mul_add]; simp
    have hs : (L_numbers_Sum_1 l).step ((k : Int), a, b) = some (.inl (((k + 1 : Nat) : Int), a + x.Low, b + x.High)) := by
      simp only [L_numbers_Sum_1, Int.ofNat_lt, hk, decide_true, cond_true, idx?_nat hk, Option.bind_some, hg]
      rw [wr_nat (by omega), wr_in (n := a + x.Low) (by omega) (by omega), wr_in (n := b + x.High) (by omega) (by omega)]
    rw [loopC_eq, hs]
    simp only
    rw [sum_loop l hn hn' hl m (k + 1) (a + x.Low) (b + x.High) hd (fun y hy => hx y (by simp [hy])) (by omega) (by omega) (by omega) (by omega)]
    simp only [sumB, addB]
    rw [Int.add_assoc, Int.add_assoc]
theorem Sum_eq {l : List TBounds} {n : Int} (hn : 0 ≤ n) (hn' : n ≤ 1000000000000) (hl : l.length ≤ 100000) (hx : ∀ x ∈ l, upTo n x) : F_numbers_Sum l = some (sumB l) := by
  unfold F_numbers_Sum
  simp only
  rw [show ((0 : Int), (0 : Int), (0 : Int)) = (((0 : Nat) : Int), (0 : Int), (0 : Int)) from rfl, sum_loop l hn hn' hl l 0 0 0 rfl hx (by omega) (by simp) (by omega) (by simp)]
  simp

def noReach : TReach := ⟨0, 0, ⟨0, 0⟩, [], 0, ⟨0, 0⟩, 0⟩
def reachAt (r : TRiver) (i : Nat) : TReach := r.Reaches[i]?.getD noReach
def getB (l : List (List TBounds)) (i k : Nat) : TBounds := (l[i]?.getD [])[k]?.getD ⟨0, 0⟩
/-- The flow of a reach in an hour. -/
def flowAt (r : TRiver) (sides : List (List TBounds)) : Nat → Int → TBounds
  | 0, h => if h < 0 then (reachAt r 0).Base else getB sides 0 h.toNat
  | i + 1, h => if h < 0 then (reachAt r (i + 1)).Base else addB (getB sides (i + 1) h.toNat) (flowAt r sides i (h - (reachAt r i).Delay))

/-- A valid river and a forecast for it. -/
structure FcOk (r : TRiver) (sides : List (List TBounds)) (H : Nat) : Prop where
  river : riverOk r = true
  len : sides.length = r.Reaches.length
  pos : 1 ≤ H
  most : H ≤ 400
  hours : ∀ s ∈ sides, s.length = H
  valid : ∀ s ∈ sides, ∀ b ∈ s, upTo 10000000000 b
theorem fcOk_of {r : TRiver} {sides : List (List TBounds)} (h : startErr r sides = 0) : ∃ H, FcOk r sides H := by
  unfold startErr at h
  split at h
  · next hr =>
    unfold fcErr at h
    split at h
    · cases h
    · next hl =>
      split at h
      · cases h
      · next s m =>
        split at h
        · cases h
        · next h0 =>
          split at h
          · cases h
          · next h1 =>
            split at h
            · cases h
            · next h2 =>
              split at h
              · cases h
              · next h3 =>
                simp only [Bool.not_eq_true', Bool.not_eq_false, List.all_eq_true, decide_eq_true_eq] at h1 h3
                refine ⟨s.length, hr, by omega, by omega, by omega, h1, fun x hx b hb => ?_⟩
                have := List.all_eq_true.1 (h3 x hx) b hb
                simp only [vB, inB, Bool.and_eq_true, decide_eq_true_eq] at this
                unfold upTo
                omega
  · cases h
theorem FcOk.bounds {r : TRiver} {sides : List (List TBounds)} {H : Nat} (h : FcOk r sides H) : 1 ≤ r.Reaches.length ∧ r.Reaches.length ≤ 20 ∧ ∀ i, i < r.Reaches.length → reachOk (reachAt r i) = true := by
  have hr := h.river
  simp only [riverOk, Bool.and_eq_true, inB_iff, List.all_eq_true] at hr
  refine ⟨by omega, by omega, fun i hi => ?_⟩
  rw [reachAt, List.getElem?_eq_getElem hi]
  exact hr.2.1 _ (List.getElem_mem hi)
theorem reach_of {x : TReach} (h : reachOk x = true) : 0 ≤ x.Delay ∧ x.Delay ≤ 200 ∧ upTo 10000000000 x.Base := by
  simp only [reachOk, Bool.and_eq_true, inB_iff, vB, decide_eq_true_eq] at h
  unfold upTo
  omega
theorem FcOk.getB_upTo {r : TRiver} {sides : List (List TBounds)} {H : Nat} (h : FcOk r sides H) (i k : Nat) : upTo 10000000000 (getB sides i k) := by
  unfold getB
  cases hi : sides[i]? with
  | none => simp [upTo]
  | some s =>
    cases hk : s[k]? with
    | none => simp [upTo, hk]
    | some b =>
      simp only [Option.getD_some, hk]
      exact h.valid s (List.mem_of_getElem? hi) b (List.mem_of_getElem? hk)
theorem FcOk.flow_upTo {r : TRiver} {sides : List (List TBounds)} {H : Nat} (h : FcOk r sides H) : ∀ (i : Nat) (k : Int), i < r.Reaches.length → upTo (10000000000 * ((i : Int) + 1)) (flowAt r sides i k)
  | 0, k, hi => by
    have h1 := reach_of (h.bounds.2.2 0 hi)
    have h2 := h.getB_upTo 0 k.toNat
    unfold flowAt
    split
    · exact h1.2.2
    · exact h2
  | i + 1, k, hi => by
    have h1 := reach_of (h.bounds.2.2 (i + 1) hi)
    obtain ⟨a1, a2, a3⟩ := h.getB_upTo (i + 1) k.toNat
    obtain ⟨b1, b2, b3⟩ := h.flow_upTo i (k - (reachAt r i).Delay) (by omega)
    obtain ⟨_, _, c1, c2, c3⟩ := h1
    rw [flowAt]
    split
    · unfold upTo; refine ⟨c1, c2, ?_⟩; simp only [Int.natCast_add]; omega
    · simp only [upTo, addB, Int.natCast_add]; omega

theorem getB_eq {sides : List (List TBounds)} {i k : Nat} (hi : i < sides.length) (hk : k < sides[i].length) : getB sides i k = sides[i][k] := by
  simp [getB, hi, hk]
theorem reachAt_eq {r : TRiver} {i : Nat} (hi : i < r.Reaches.length) : r.Reaches[i] = reachAt r i := by simp [reachAt, hi]

/-- The reference's flow. -/
theorem flow_step {r : TRiver} {sides : List (List TBounds)} {H : Nat} (h : FcOk r sides H) {i : Nat} (hi : i < r.Reaches.length) {k : Int} (hk : k < H) (hk' : -1000 ≤ k) (f : TRiver × List (List TBounds) × Int × Int → Option TBounds) :
    B_thalwegref01_Flow f (r, sides, (i : Int), k) = if k < 0 then some (reachAt r i).Base else match i with
      | 0 => some (getB sides 0 k.toNat)
      | i + 1 => (f (r, sides, (i : Int), k - (reachAt r i).Delay)).bind fun y => some ⟨wr ((getB sides (i + 1) k.toNat).Low + y.Low), wr ((getB sides (i + 1) k.toNat).High + y.High)⟩ := by
  simp only [B_thalwegref01_Flow]
  by_cases c : k < 0
  · simp only [c, decide_true, cond_true, if_true, idx?_nat hi, Option.bind_some, reachAt_eq hi]
  · have his : i < sides.length := by rw [h.len]; exact hi
    have hks : k.toNat < sides[i].length := by rw [h.hours _ (List.getElem_mem his)]; omega
    have e : k = (k.toNat : Int) := by omega
    simp only [c, decide_false, cond_false, if_false, idx?_nat his, Option.bind_some]
    have hx : idx? sides[i] ((k.toNat : Nat) : Int) = some (getB sides i k.toNat) := by rw [idx?_nat hks, getB_eq his hks]
    have hb := h.bounds
    have hm := h.most
    rw [(congrArg (idx? sides[i]) e).trans hx]
    simp only [Option.bind_some]
    cases i with
    | zero => simp
    | succ i =>
      have hd := reach_of (h.bounds.2.2 i (by omega))
      simp only [show decide (((i + 1 : Nat) : Int) > 0) = true by simp, cond_true]
      rw [show wr (((i + 1 : Nat) : Int) - 1) = (i : Int) by rw [wr_in] <;> omega, idx?_nat (show i < r.Reaches.length by omega)]
      simp only [Option.bind_some, reachAt_eq (show i < r.Reaches.length by omega)]
      rw [wr_in (n := k - (reachAt r i).Delay) (by omega) (by omega)]
theorem flow_add {r : TRiver} {sides : List (List TBounds)} {H : Nat} (h : FcOk r sides H) {i : Nat} (hi : i + 1 < r.Reaches.length) (k : Nat) (j : Int) :
    (⟨wr ((getB sides (i + 1) k).Low + (flowAt r sides i j).Low), wr ((getB sides (i + 1) k).High + (flowAt r sides i j).High)⟩ : TBounds) = addB (getB sides (i + 1) k) (flowAt r sides i j) := by
  obtain ⟨a1, a2, a3⟩ := h.getB_upTo (i + 1) k
  obtain ⟨b1, b2, b3⟩ := h.flow_upTo i j (by omega)
  have := h.bounds
  rw [wr_in (by omega) (by omega), wr_in (by omega) (by omega)]
  rfl
theorem flow_is {r : TRiver} {sides : List (List TBounds)} {H : Nat} (h : FcOk r sides H) : ∀ (i : Nat) (k : Int), i < r.Reaches.length → k < H → -1000 ≤ k → recN B_thalwegref01_Flow (i + 1) (r, sides, (i : Int), k) = some (flowAt r sides i k) ∧ ∀ m z, recN B_thalwegref01_Flow m (r, sides, (i : Int), k) = some z → z = flowAt r sides i k
  | 0, k, hi, hk, hk' => by
    have hs := flow_step h hi hk hk'
    have e : ∀ f, B_thalwegref01_Flow f (r, sides, ((0 : Nat) : Int), k) = some (flowAt r sides 0 k) := by
      intro f
      rw [hs f, flowAt]
      split <;> rfl
    refine ⟨e _, fun m z hm => ?_⟩
    cases m with
    | zero => cases hm
    | succ m => rw [recN, e] at hm; exact (Option.some.inj hm).symm
  | i + 1, k, hi, hk, hk' => by
    have hs := flow_step h hi hk hk'
    have hd := reach_of (h.bounds.2.2 i (by omega))
    by_cases c : k < 0
    · have e : ∀ f, B_thalwegref01_Flow f (r, sides, ((i + 1 : Nat) : Int), k) = some (flowAt r sides (i + 1) k) := by
        intro f
        rw [hs f, flowAt, if_pos c, if_pos c]
      refine ⟨e _, fun m z hm => ?_⟩
      cases m with
      | zero => cases hm
      | succ m => rw [recN, e] at hm; exact (Option.some.inj hm).symm
    · obtain ⟨h1, h2⟩ := flow_is h i (k - (reachAt r i).Delay) (by omega) (by omega) (by omega)
      have ef : flowAt r sides (i + 1) k = addB (getB sides (i + 1) k.toNat) (flowAt r sides i (k - (reachAt r i).Delay)) := by rw [flowAt, if_neg c]
      refine ⟨?_, fun m z hm => ?_⟩
      · rw [recN, hs, if_neg c, ef]
        simp only
        rw [h1]
        simp only [Option.bind_some, flow_add h hi]
      · cases m with
        | zero => cases hm
        | succ m =>
          rw [recN, hs, if_neg c] at hm
          simp only at hm
          cases hr : recN B_thalwegref01_Flow m (r, sides, (i : Int), k - (reachAt r i).Delay) with
          | none => rw [hr] at hm; cases hm
          | some y =>
            rw [hr] at hm
            have := h2 m y hr
            subst this
            simp only [Option.bind_some, flow_add h hi, Option.some.injEq] at hm
            rw [← hm, ef]
theorem Flow_eq {r : TRiver} {sides : List (List TBounds)} {H : Nat} (h : FcOk r sides H) {i : Nat} {k : Int} (hi : i < r.Reaches.length) (hk : k < H) (hk' : -1000 ≤ k) : F_thalwegref01_Flow (r, sides, (i : Int), k) = some (flowAt r sides i k) :=
  fixC_of (flow_is h i k hi hk hk').1 (flow_is h i k hi hk hk').2
end Go.Ev
/- Chapter 1: a river runs. -/
set_option linter.unusedVariables false
set_option linter.unusedSimpArgs false
namespace Go.Ev
set_option maxHeartbeats 1000000

def rowOf (r : TRiver) (sides : List (List TBounds)) (H i : Nat) : List TBounds := (List.range H).map fun (k : Nat) => flowAt r sides i (k : Int)
def flowsTo (r : TRiver) (sides : List (List TBounds)) (H n : Nat) : List (List TBounds) := (List.range n).map fun i => rowOf r sides H i
theorem rowOf_length (r : TRiver) (sides : List (List TBounds)) (H i : Nat) : (rowOf r sides H i).length = H := by simp [rowOf]
theorem rowOf_get (r : TRiver) (sides : List (List TBounds)) (H i k : Nat) (h : k < (rowOf r sides H i).length) : (rowOf r sides H i)[k] = flowAt r sides i (k : Int) := by simp [rowOf]
theorem flowsTo_length (r : TRiver) (sides : List (List TBounds)) (H n : Nat) : (flowsTo r sides H n).length = n := by simp [flowsTo]
theorem flowsTo_get (r : TRiver) (sides : List (List TBounds)) (H n i : Nat) (h : i < (flowsTo r sides H n).length) : (flowsTo r sides H n)[i] = rowOf r sides H i := by simp [flowsTo]
theorem flowsTo_succ (r : TRiver) (sides : List (List TBounds)) (H n : Nat) : flowsTo r sides H (n + 1) = flowsTo r sides H n ++ [rowOf r sides H n] := by simp [flowsTo, List.range_succ]

theorem fill_set {α : Type} (row : List α) (z : α) (k : Nat) (h : k < row.length) : (row.take k ++ List.replicate (row.length - k) z).set k row[k] = row.take (k + 1) ++ List.replicate (row.length - (k + 1)) z := by
  have e : row.length - k = (row.length - (k + 1)) + 1 := by omega
  rw [e, List.replicate_succ, List.set_append_right _ _ (by simp; omega), List.take_succ_eq_append_getElem h]
  have hm : min k row.length = k := Nat.min_eq_left (Nat.le_of_lt h)
  simp only [List.length_take, hm, Nat.sub_self, List.set_cons_zero, List.append_assoc, List.cons_append, List.nil_append]
theorem set?_of {α : Type} {l : List α} {j : Nat} {x : α} (h : j < l.length) : set? l (j : Int) x = some (l.set j x) := by
  unfold set?
  rw [if_pos (by omega)]
  simp

/-- What comes into a reach. -/
def inOf (r : TRiver) (sides : List (List TBounds)) : Nat → Nat → TBounds
  | 0, _ => ⟨0, 0⟩
  | i + 1, k => flowAt r sides i ((k : Int) - (reachAt r i).Delay)
theorem inflow_eq {r : TRiver} {sides : List (List TBounds)} {H : Nat} (h : FcOk r sides H) {i k n : Nat} (hi : i < r.Reaches.length) (hk : k < H) (hn : i ≤ n) :
    F_river_stream_inflow (⟨r, flowsTo r sides H n⟩, (i : Int), (k : Int)) = some (inOf r sides i k) := by
  simp only [F_river_stream_inflow]
  cases i with
  | zero => simp [inOf]
  | succ i =>
    simp only [inOf]
    have hd := reach_of (h.bounds.2.2 i (by omega))
    have hb := h.bounds
    have hm := h.most
    simp only [show ((((i + 1 : Nat) : Int) == 0) : Bool) = false by simp; omega, cond_false]
    rw [show wr (((i + 1 : Nat) : Int) - 1) = (i : Int) by rw [wr_in] <;> omega, idx?_nat (show i < r.Reaches.length by omega)]
    simp only [Option.bind_some, reachAt_eq (show i < r.Reaches.length by omega)]
    by_cases c : (k : Int) < (reachAt r i).Delay
    · simp only [c, decide_true, cond_true, Option.some.injEq]
      cases i <;> rw [flowAt, if_pos (by omega)]
    · simp only [c, decide_false, cond_false]
      rw [idx?_nat (show i < (flowsTo r sides H n).length by rw [flowsTo_length]; omega)]
      simp only [Option.bind_some, flowsTo_get]
      rw [wr_in (n := (k : Int) - (reachAt r i).Delay) (by omega) (by omega)]
      have e : (k : Int) - (reachAt r i).Delay = (((k : Int) - (reachAt r i).Delay).toNat : Int) := by omega
      have hx : idx? (rowOf r sides H i) (((k : Int) - (reachAt r i).Delay).toNat : Int) = some (flowAt r sides i ((k : Int) - (reachAt r i).Delay)) := by
        rw [idx?_nat (by rw [rowOf_length]; omega), rowOf_get, ← e]
      rw [(congrArg (idx? (rowOf r sides H i)) e).trans hx]
      rfl

theorem Sum2_eq {r : TRiver} {sides : List (List TBounds)} {H : Nat} (h : FcOk r sides H) {i k : Nat} (hi : i < r.Reaches.length) :
    F_numbers_Sum [getB sides i k, inOf r sides i k] = some (flowAt r sides i (k : Int)) := by
  obtain ⟨hb1, hb2, _⟩ := h.bounds
  rw [Sum_eq (n := 1000000000000) (by omega) (by omega) (by simp)]
  · simp only [sumB, addB]
    cases i with
    | zero => rw [flowAt, if_neg (by omega)]; simp [inOf]
    | succ i => rw [flowAt, if_neg (by omega)]; simp [inOf, addB]
  · intro x hx
    simp only [List.mem_cons, List.not_mem_nil, or_false] at hx
    rcases hx with rfl | rfl
    · obtain ⟨a1, a2, a3⟩ := h.getB_upTo i k
      exact ⟨a1, a2, by omega⟩
    · cases i with
      | zero => simp [upTo, inOf]
      | succ i =>
        rw [inOf]
        obtain ⟨a1, a2, a3⟩ := h.flow_upTo i ((k : Int) - (reachAt r i).Delay) (by omega)
        exact ⟨a1, a2, by omega⟩

theorem run_eq {r : TRiver} {sides : List (List TBounds)} {H : Nat} (h : FcOk r sides H) (hz : startErr r sides = 0) (hs : ∀ x ∈ sides, x.length ≤ 1000000) : F_river_run (r, sides) = some (⟨r, flowsTo r sides H sides.length⟩, 0) := by
  have hb := h.bounds
  have hm := h.most
  have hfc : fcErr r sides = 0 := by simpa [startErr, h.river] using hz
  simp only [F_river_run, Check_eq, h.river, if_true, Option.bind_some, checkForecast_eq h.river hs, hfc, bne_self_eq_false, cond_false]
  rw [show ((0 : Int), ([] : List (List TBounds))) = (fun i : Nat => ((i : Int), flowsTo r sides H i)) 0 from rfl, loop_run (fun i : Nat => ((i : Int), flowsTo r sides H i)) sides.length (e := flowsTo r sides H sides.length)]
  · rfl
  · intro i hi
    have hir : i < r.Reaches.length := by rw [← h.len]; exact hi
    have hsi := h.hours _ (List.getElem_mem hi)
    simp only [L_river_run_2, Int.ofNat_lt, hi, decide_true, cond_true, idx?_nat hi, Option.bind_some]
    have hmk : mk? (⟨0, 0⟩ : TBounds) ((sides[i].length : Nat) : Int) 16 = some (List.replicate H ⟨0, 0⟩) := by
      unfold mk?
      rw [if_pos (by omega), hsi]
      rfl
    rw [hmk]
    simp only [Option.bind_some]
    have hrl := rowOf_length r sides H i
    rw [show ((0 : Int), List.replicate H (⟨0, 0⟩ : TBounds)) = (fun k : Nat => ((k : Int), (rowOf r sides H i).take k ++ List.replicate ((rowOf r sides H i).length - k) (⟨0, 0⟩ : TBounds))) 0 from by simp [hrl],
      loop_run (fun k : Nat => ((k : Int), (rowOf r sides H i).take k ++ List.replicate ((rowOf r sides H i).length - k) (⟨0, 0⟩ : TBounds))) H (e := rowOf r sides H i)]
    · simp only [Option.bind_some]
      rw [app_of (by rw [flowsTo_length]; simp; omega) (by decide), wr_nat (by omega), flowsTo_succ]
      rfl
    · intro k hk
      simp only [L_river_run_1, hsi, Int.ofNat_lt, hk, decide_true, cond_true, idx?_nat (show k < sides[i].length by omega), Option.bind_some, inflow_eq h hir hk (Nat.le_refl i)]
      rw [← getB_eq hi (show k < sides[i].length by omega), Sum2_eq h hir]
      simp only [Option.bind_some]
      have hlen : k < ((rowOf r sides H i).take k ++ List.replicate ((rowOf r sides H i).length - k) (⟨0, 0⟩ : TBounds)).length := by simp [hrl]; omega
      rw [idx?_nat hlen]
      simp only [Option.bind_some]
      rw [set?_of hlen, wr_nat (by omega)]
      have hkr : k < (rowOf r sides H i).length := by omega
      have := fill_set (rowOf r sides H i) ⟨0, 0⟩ k hkr
      rw [rowOf_get] at this
      rw [this]
      rfl
    · simp only [L_river_run_1, hsi]
      simp [hrl, List.take_of_length_le]
  · simp [L_river_run_2]
theorem run_err {r : TRiver} {sides : List (List TBounds)} (hz : startErr r sides ≠ 0) (hs : ∀ x ∈ sides, x.length ≤ 1000000) : F_river_run (r, sides) = some (⟨⟨[], []⟩, []⟩, startErr r sides) := by
  simp only [F_river_run, Check_eq, Option.bind_some]
  unfold startErr at hz ⊢
  cases hr : riverOk r with
  | false => rfl
  | true =>
    rw [hr] at hz
    simp only [if_true] at hz
    simp only [if_true, bne_self_eq_false, cond_false, checkForecast_eq hr hs, Option.bind_some, show (fcErr r sides != 0) = true by simpa using hz, cond_true]
end Go.Ev
/- Chapter 1: what flows by; the law RiverVolumes is true. -/
set_option linter.unusedVariables false
set_option linter.unusedSimpArgs false
namespace Go.Ev
set_option maxHeartbeats 1000000

def largeF (r : TRiver) (s : List (List TBounds)) : Bool := decide (r.Reaches.length > 25) || (decide (r.Shoals.length > 50) || (decide (s.length > 25) || (!(r.Reaches.all fun x => decide (x.Curve.length ≤ 40)) || !(s.all fun x => decide (x.length ≤ 450)))))
/-- What flows by in the hours from j to before k. -/
def volOf (r : TRiver) (s : List (List TBounds)) (H i j k : Nat) : TBounds := sumB (((rowOf r s H i).drop j).take (k - j))
theorem slc?_nat {α : Type} {l : List α} {j k : Nat} (h : j ≤ k) (h' : k ≤ l.length) : slc? l (j : Int) (k : Int) = some ((l.drop j).take (k - j)) := by
  unfold slc?
  rw [if_pos (by omega)]
  simp
theorem row_upTo {r : TRiver} {s : List (List TBounds)} {H : Nat} (h : FcOk r s H) {i : Nat} (hi : i < r.Reaches.length) : ∀ x ∈ rowOf r s H i, upTo 210000000000 x := by
  intro x hx
  simp only [rowOf, List.mem_map] at hx
  obtain ⟨k, _, rfl⟩ := hx
  obtain ⟨a1, a2, a3⟩ := h.flow_upTo i k hi
  have := h.bounds.2.1
  exact ⟨a1, a2, by omega⟩

theorem sumB_snoc : ∀ (l : List TBounds) (x : TBounds), sumB (l ++ [x]) = addB (sumB l) x
  | [], x => by simp [sumB, addB]
  | a :: l, x => by simp only [List.cons_append, sumB, sumB_snoc l x, addB, Int.add_assoc]
end Go.Ev
/- Chapter 1: closures; the law RiverCloses is true. -/
set_option linter.unusedVariables false
set_option linter.unusedSimpArgs false
namespace Go.Ev
set_option maxHeartbeats 1000000

theorem of_loop (r : TRiver) (place : Int) (sh : List TShoal) : ∀ (m : List TReach) (k : Nat) (e : Int), r.Reaches.drop k = m → (∀ x ∈ m, 0 ≤ x.Length ∧ x.Length ≤ 5000) → 0 ≤ e → e ≤ place → place < e + tot m → place ≤ 1000000000 → k + m.length ≤ 1000000 →
    ∃ (j : Nat) (hj : j < r.Reaches.length), loopC (L_thalwegref01_Of_1 r).step (place - e, (k : Int)) = some (j : Int) ∧ findGo place sh m e k = some ⟨r.Reaches[j], (j : Int), place, sh⟩
  | [], k, e, h, _, _, h1, h2, _, _ => by rw [tot] at h2; omega
  | x :: m, k, e, h, hx, h0, h1, h2, h3, hk => by
    obtain ⟨hl, hg, hd⟩ := drop_cons h
    have hx0 := hx x (by simp)
    simp only [List.length_cons] at hk
    rw [tot] at h2
    by_cases c : place < e + x.Length
    · refine ⟨k, hl, ?_, ?_⟩
      · rw [loopC_eq]
        simp only [L_thalwegref01_Of_1, idx?_nat hl, Option.bind_some, hg, show decide (place - e ≥ x.Length) = false by simp; omega, cond_false]
      · rw [findGo, if_pos ⟨by omega, c⟩, hg]
    · obtain ⟨j, hj, a1, a2⟩ := of_loop r place sh m (k + 1) (e + x.Length) hd (fun y hy => hx y (by simp [hy])) (by omega) (by omega) (by omega) h3 (by omega)
      refine ⟨j, hj, ?_, ?_⟩
      · have hs : (L_thalwegref01_Of_1 r).step (place - e, (k : Int)) = some (.inl (place - (e + x.Length), ((k + 1 : Nat) : Int))) := by
          simp only [L_thalwegref01_Of_1, idx?_nat hl, Option.bind_some, hg, show decide (place - e ≥ x.Length) = true by simp; omega, cond_true]
          rw [wr_nat (by omega), wr_in (by omega) (by omega), show place - e - x.Length = place - (e + x.Length) by omega]
        rw [loopC_eq, hs]
        exact a1
      · rw [findGo, if_neg (by omega)]
        exact a2
theorem Of_eq {r : TRiver} {place : Int} (hr : ∀ x ∈ r.Reaches, 0 ≤ x.Length ∧ x.Length ≤ 5000) (hl : r.Reaches.length ≤ 1000) (h0 : 0 ≤ place) (h1 : place < tot r.Reaches) :
    ∃ (j : Nat) (hj : j < r.Reaches.length), F_thalwegref01_Of (r, place) = some (j : Int) ∧ F_river_find (r, place) = some (⟨r.Reaches[j], (j : Int), place, r.Shoals⟩, true) := by
  have hb := tot_bound hr
  obtain ⟨j, hj, a1, a2⟩ := of_loop r place r.Shoals r.Reaches 0 0 rfl hr (by omega) h0 (by omega) (by omega) (by omega)
  refine ⟨j, hj, ?_, ?_⟩
  · unfold F_thalwegref01_Of
    simp only
    rw [show (place, (0 : Int)) = (place - 0, ((0 : Nat) : Int)) by simp, a1]
    rfl
  · rw [find_eq hr hl, a2]

theorem fourC {α : Type} (a b c d : Bool) (x y : α) : (bif (!a) then some y else bif (!b) then some y else bif (!c) then some y else bif (!d) then some y else some x) = some (if (a && (b && (c && d))) = true then x else y) := by
  cases a <;> cases b <;> cases c <;> cases d <;> rfl
theorem find_in {r : TRiver} {place : Int} (hr : ∀ x ∈ r.Reaches, 0 ≤ x.Length ∧ x.Length ≤ 5000) (hl : r.Reaches.length ≤ 1000) : ∃ s, F_river_find (r, place) = some (s, inB place 0 (tot r.Reaches - 1)) := by
  have hf := findGo_some (place := place) (sh := r.Shoals) (e := 0) (k := 0) hr (by omega)
  have hf : (findGo place r.Shoals r.Reaches 0 0).isSome = inB place 0 (tot r.Reaches - 1) := by
    rw [Bool.eq_iff_iff, hf, inB_iff]; omega
  rw [find_eq hr hl, ← hf]
  cases findGo place r.Shoals r.Reaches 0 0 with
  | none => exact ⟨_, rfl⟩
  | some s => exact ⟨_, rfl⟩
/-- The level of a reach in an hour. -/
def levAt (r : TRiver) (s : List (List TBounds)) (j : Nat) (h : Int) : TBounds := levB (reachAt r j) (flowAt r s j h)
theorem FcOk.lens {r : TRiver} {s : List (List TBounds)} {H : Nat} (h : FcOk r s H) : (∀ x ∈ r.Reaches, 0 ≤ x.Length ∧ x.Length ≤ 5000) ∧ r.Reaches.length ≤ 20 := by
  have h1 := h.river
  simp only [riverOk, Bool.and_eq_true, inB_iff, List.all_eq_true] at h1
  exact ⟨fun x hx => reachOk_len (h1.2.1 x hx), by omega⟩
end Go.Ev
/- Chapter 1: how high beds are, how deep the water is. -/
set_option linter.unusedVariables false
set_option linter.unusedSimpArgs false
namespace Go.Ev
set_option maxHeartbeats 1000000

def shoalLo (x : TShoal) (h : Int) : Int := x.Bed.Low + (x.Grow.Low * minmax true 0 (h - x.Sounded)) / 24
def shoalHi (x : TShoal) (h : Int) : Int := x.Bed.High + -((-(x.Grow.High * minmax true 0 (h - x.Sounded))) / 24)
def shOk (x : TShoal) : Prop := 0 ≤ x.Bed.Low ∧ x.Bed.Low ≤ 10000 ∧ 0 ≤ x.Bed.High ∧ x.Bed.High ≤ 10000 ∧ -400 ≤ x.Sounded ∧ x.Sounded ≤ 400 ∧ -500 ≤ x.Grow.Low ∧ x.Grow.Low ≤ 500 ∧ -500 ≤ x.Grow.High ∧ x.Grow.High ≤ 500
theorem shOk_of {r : TRiver} {x : TShoal} (h : shoalOk r x = true) : shOk x := by
  simp only [shoalOk, vB, Bool.and_eq_true, inB_iff, decide_eq_true_eq] at h
  unfold shOk
  omega
theorem age_le {h s : Int} (h0 : -1000 ≤ h) (h1 : h ≤ 1000) (s0 : -400 ≤ s) (s1 : s ≤ 400) : 0 ≤ minmax true 0 (h - s) ∧ minmax true 0 (h - s) ≤ 1400 := by
  simp only [minmax, if_true]
  split <;> omega
theorem grow_le {a d : Int} (ha : -500 ≤ a) (ha' : a ≤ 500) (h0 : 0 ≤ d) (h1 : d ≤ 1400) : -700000 ≤ a * d ∧ a * d ≤ 700000 := by
  have e1 := Int.mul_le_mul_of_nonneg_right ha' h0
  have e2 := Int.mul_le_mul_of_nonneg_right ha h0
  omega
theorem shoal_le {x : TShoal} {h : Int} (hx : shOk x) (h0 : -1000 ≤ h) (h1 : h ≤ 1000) : -1000000 ≤ shoalLo x h ∧ shoalLo x h ≤ 1000000 ∧ -1000000 ≤ shoalHi x h ∧ shoalHi x h ≤ 1000000 := by
  obtain ⟨a1, a2, a3, a4, a5, a6, a7, a8, a9, a10⟩ := hx
  have ha := age_le h0 h1 a5 a6
  have g1 := grow_le a7 a8 ha.1 ha.2
  have g2 := grow_le a9 a10 ha.1 ha.2
  unfold shoalLo shoalHi
  generalize x.Grow.Low * minmax true 0 (h - x.Sounded) = u at *
  generalize x.Grow.High * minmax true 0 (h - x.Sounded) = v at *
  omega
theorem shoalAt_eq {x : TShoal} {h : Int} (hx : shOk x) (h0 : -1000 ≤ h) (h1 : h ≤ 1000) : F_river_shoalAt (x, h) = some ⟨shoalLo x h, shoalHi x h⟩ := by
  have hs := shoal_le hx h0 h1
  obtain ⟨a1, a2, a3, a4, a5, a6, a7, a8, a9, a10⟩ := hx
  have ha := age_le h0 h1 a5 a6
  have g1 := grow_le a7 a8 ha.1 ha.2
  have g2 := grow_le a9 a10 ha.1 ha.2
  simp only [F_river_shoalAt]
  rw [wr_in (n := h - x.Sounded) (by omega) (by omega), minmax_comm (h - x.Sounded) 0]
  rw [wr_in (n := x.Grow.Low * minmax true 0 (h - x.Sounded)) (by omega) (by omega), wr_in (n := x.Grow.High * minmax true 0 (h - x.Sounded)) (by omega) (by omega)]
  rw [Down_eq (by decide) (by omega), Up_eq (by decide) (by omega)]
  simp only [Option.bind_some]
  unfold shoalLo shoalHi at hs
  rw [wr_in (n := x.Bed.Low + _) (by omega) (by omega), wr_in (n := x.Bed.High + _) (by omega) (by omega)]
  rfl

def bedGo (place h : Int) : List TShoal → Int → Int → Int × Int
  | [], a, b => (a, b)
  | x :: l, a, b => if x.Place = place then bedGo place h l (minmax true a (shoalLo x h)) (minmax true b (shoalHi x h)) else bedGo place h l a b
theorem max_le {a b m : Int} (h0 : -m ≤ a) (h1 : a ≤ m) (h2 : -m ≤ b) (h3 : b ≤ m) : -m ≤ minmax true a b ∧ minmax true a b ≤ m := by
  simp only [minmax, if_true]
  split <;> omega
theorem bedGo_le {place h : Int} (h0 : -1000 ≤ h) (h1 : h ≤ 1000) : ∀ {l : List TShoal} {a b : Int}, (∀ x ∈ l, shOk x) → -1000000 ≤ a → a ≤ 1000000 → -1000000 ≤ b → b ≤ 1000000 →
    -1000000 ≤ (bedGo place h l a b).1 ∧ (bedGo place h l a b).1 ≤ 1000000 ∧ -1000000 ≤ (bedGo place h l a b).2 ∧ (bedGo place h l a b).2 ≤ 1000000
  | [], a, b, _, a0, a1, b0, b1 => by simp only [bedGo]; omega
  | x :: l, a, b, hx, a0, a1, b0, b1 => by
    have hs := shoal_le (hx x (by simp)) h0 h1
    have m1 := max_le a0 a1 hs.1 hs.2.1
    have m2 := max_le b0 b1 hs.2.2.1 hs.2.2.2
    simp only [bedGo]
    split
    · exact bedGo_le h0 h1 (fun y hy => hx y (by simp [hy])) m1.1 m1.2 m2.1 m2.2
    · exact bedGo_le h0 h1 (fun y hy => hx y (by simp [hy])) a0 a1 b0 b1
theorem bed_loop (p : Triver_site) {h : Int} (h0 : -1000 ≤ h) (h1 : h ≤ 1000) : ∀ (m : List TShoal) (k : Nat) (a b : Int), p.shoals_.drop k = m → (∀ x ∈ m, shOk x) → k + m.length ≤ 1000000 →
    loopC (L_river_site_bed_1 p h).step ((k : Int), a, b) = some (bedGo p.place_ h m a b)
  | [], k, a, b, hd, _, _ => by
    have := drop_nil hd
    have e : (L_river_site_bed_1 p h).step ((k : Int), a, b) = some (.inr (a, b)) := by
      simp only [L_river_site_bed_1, decide_eq_false (show ¬ (k : Int) < (p.shoals_.length : Int) by omega), cond_false]
    rw [loopC_eq, e]
    rfl
  | x :: m, k, a, b, hd, hx, hk => by
    obtain ⟨hl, hg, hd'⟩ := drop_cons hd
    have hx0 := hx x (by simp)
    simp only [List.length_cons] at hk
    have ih := fun a b => bed_loop p h0 h1 m (k + 1) a b hd' (fun y hy => hx y (by simp [hy])) (by omega)
    have e : (L_river_site_bed_1 p h).step ((k : Int), a, b) = some (.inl (if x.Place = p.place_ then (((k + 1 : Nat) : Int), minmax true a (shoalLo x h), minmax true b (shoalHi x h)) else (((k + 1 : Nat) : Int), a, b))) := by
      simp only [L_river_site_bed_1, decide_eq_true (show (k : Int) < (p.shoals_.length : Int) by omega), cond_true, idx?_nat hl, Option.bind_some, hg, shoalAt_eq hx0 h0 h1]
      rw [wr_nat (by omega)]
      by_cases c : x.Place = p.place_
      · rw [if_pos c, c]; simp
      · rw [if_neg c, show (x.Place == p.place_) = false by simpa using c]; rfl
    rw [loopC_eq, e, bedGo]
    by_cases c : x.Place = p.place_
    · rw [if_pos c, if_pos c]; exact ih _ _
    · rw [if_neg c, if_neg c]; exact ih _ _
theorem refBed_loop (r : TRiver) (place : Int) {h : Int} (h0 : -1000 ≤ h) (h1 : h ≤ 1000) : ∀ (m : List TShoal) (k : Nat) (a b : Int), r.Shoals.drop k = m → (∀ x ∈ m, shOk x) → k + m.length ≤ 1000000 →
    loopC (L_thalwegref01_Bed_1 place h r).step ((k : Int), a, b) = some (bedGo place h m a b)
  | [], k, a, b, hd, _, _ => by
    have := drop_nil hd
    have e : (L_thalwegref01_Bed_1 place h r).step ((k : Int), a, b) = some (.inr (a, b)) := by
      simp only [L_thalwegref01_Bed_1, decide_eq_false (show ¬ (k : Int) < (r.Shoals.length : Int) by omega), cond_false]
    rw [loopC_eq, e]
    rfl
  | x :: m, k, a, b, hd, hx, hk => by
    obtain ⟨hl, hg, hd'⟩ := drop_cons hd
    have hx0 := hx x (by simp)
    have hs := shoal_le hx0 h0 h1
    simp only [List.length_cons] at hk
    have ih := fun a b => refBed_loop r place h0 h1 m (k + 1) a b hd' (fun y hy => hx y (by simp [hy])) (by omega)
    have e : (L_thalwegref01_Bed_1 place h r).step ((k : Int), a, b) = some (.inl (if x.Place = place then (((k + 1 : Nat) : Int), minmax true a (shoalLo x h), minmax true b (shoalHi x h)) else (((k + 1 : Nat) : Int), a, b))) := by
      obtain ⟨a1, a2, a3, a4, a5, a6, a7, a8, a9, a10⟩ := hx0
      have ha := age_le h0 h1 a5 a6
      have g1 := grow_le a7 a8 ha.1 ha.2
      have g2 := grow_le a9 a10 ha.1 ha.2
      simp only [L_thalwegref01_Bed_1, decide_eq_true (show (k : Int) < (r.Shoals.length : Int) by omega), cond_true, idx?_nat hl, Option.bind_some, hg]
      rw [wr_nat (by omega)]
      by_cases c : x.Place = place
      · rw [if_pos c, show (x.Place != place) = false by simpa using c]
        rw [wr_in (n := h - x.Sounded) (by omega) (by omega)]
        rw [wr_in (n := x.Grow.Low * minmax true 0 (h - x.Sounded)) (by omega) (by omega), wr_in (n := x.Grow.High * minmax true 0 (h - x.Sounded)) (by omega) (by omega)]
        rw [Floor_eq (by decide) (by omega), Ceil_eq (by decide) (by omega)]
        simp only [cond_false, Option.bind_some]
        unfold shoalLo shoalHi at hs ⊢
        rw [wr_in (n := x.Bed.Low + _) (by omega) (by omega), wr_in (n := x.Bed.High + _) (by omega) (by omega)]
      · rw [if_neg c, show (x.Place != place) = true by simpa using c]; rfl
    rw [loopC_eq, e, bedGo]
    by_cases c : x.Place = place
    · rw [if_pos c, if_pos c]; exact ih _ _
    · rw [if_neg c, if_neg c]; exact ih _ _

/-- The bed at a place of a reach. -/
def bedOf (r : TRiver) (j : Nat) (place h : Int) : TBounds := ⟨(bedGo place h r.Shoals (reachAt r j).Bottom.Low (reachAt r j).Bottom.High).1, (bedGo place h r.Shoals (reachAt r j).Bottom.Low (reachAt r j).Bottom.High).2⟩
theorem river_parts {r : TRiver} (h : riverOk r = true) : (∀ x ∈ r.Reaches, 0 ≤ x.Length ∧ x.Length ≤ 5000) ∧ 1 ≤ r.Reaches.length ∧ r.Reaches.length ≤ 20 ∧ r.Shoals.length ≤ 40 ∧ (∀ x ∈ r.Shoals, shOk x) ∧ ∀ j, j < r.Reaches.length → reachOk (reachAt r j) = true := by
  simp only [riverOk, Bool.and_eq_true, inB_iff, List.all_eq_true, decide_eq_true_eq] at h
  refine ⟨fun x hx => reachOk_len (h.2.1 x hx), by omega, by omega, h.2.2.1, fun x hx => shOk_of (h.2.2.2 x hx), fun j hj => ?_⟩
  rw [reachAt, List.getElem?_eq_getElem hj]
  exact h.2.1 _ (List.getElem_mem hj)
theorem bottom_of {x : TReach} (h : reachOk x = true) : 0 ≤ x.Bottom.Low ∧ x.Bottom.Low ≤ 10000 ∧ 0 ≤ x.Bottom.High ∧ x.Bottom.High ≤ 10000 ∧ 0 ≤ x.Weir ∧ x.Weir ≤ 10000 := by
  simp only [reachOk, vB, Bool.and_eq_true, inB_iff, decide_eq_true_eq] at h
  omega
theorem siteBed_eq {r : TRiver} (hr : riverOk r = true) {j : Nat} (hj : j < r.Reaches.length) {place h : Int} (h0 : -1000 ≤ h) (h1 : h ≤ 1000) : F_river_site_bed (⟨reachAt r j, (j : Int), place, r.Shoals⟩, h) = some (bedOf r j place h) := by
  obtain ⟨p1, p2, p3, p4, p5, p6⟩ := river_parts hr
  have hb := bottom_of (p6 j hj)
  simp only [F_river_site_bed]
  rw [show minmax true 0 (reachAt r j).Bottom.Low = (reachAt r j).Bottom.Low by simp only [minmax, if_true]; split <;> omega, show minmax true 0 (reachAt r j).Bottom.High = (reachAt r j).Bottom.High by simp only [minmax, if_true]; split <;> omega]
  rw [show ((0 : Int), (reachAt r j).Bottom.Low, (reachAt r j).Bottom.High) = (((0 : Nat) : Int), (reachAt r j).Bottom.Low, (reachAt r j).Bottom.High) from rfl,
    bed_loop ⟨reachAt r j, (j : Int), place, r.Shoals⟩ h0 h1 r.Shoals 0 _ _ rfl p5 (by omega)]
  rfl
theorem refBed_eq {r : TRiver} (hr : riverOk r = true) {j : Nat} (hj : j < r.Reaches.length) {place h : Int} (ho : F_thalwegref01_Of (r, place) = some (j : Int)) (h0 : -1000 ≤ h) (h1 : h ≤ 1000) : F_thalwegref01_Bed (r, place, h) = some (bedOf r j place h) := by
  obtain ⟨p1, p2, p3, p4, p5, p6⟩ := river_parts hr
  simp only [F_thalwegref01_Bed, ho, Option.bind_some, idx?_nat hj]
  rw [reachAt_eq hj]
  have e := refBed_loop r place h0 h1 r.Shoals 0 (reachAt r j).Bottom.Low (reachAt r j).Bottom.High rfl p5 (by omega)
  rw [show ((0 : Int), (reachAt r j).Bottom.Low, (reachAt r j).Bottom.High) = (((0 : Nat) : Int), (reachAt r j).Bottom.Low, (reachAt r j).Bottom.High) from rfl, e]
  rfl
theorem bedOf_le {r : TRiver} (hr : riverOk r = true) {j : Nat} (hj : j < r.Reaches.length) {place h : Int} (h0 : -1000 ≤ h) (h1 : h ≤ 1000) : -1000000 ≤ (bedOf r j place h).Low ∧ (bedOf r j place h).Low ≤ 1000000 ∧ -1000000 ≤ (bedOf r j place h).High ∧ (bedOf r j place h).High ≤ 1000000 := by
  obtain ⟨p1, p2, p3, p4, p5, p6⟩ := river_parts hr
  have hb := bottom_of (p6 j hj)
  exact bedGo_le h0 h1 p5 (by omega) (by omega) (by omega) (by omega)

theorem level_small {l : List TRateRow} {n : Int} {up : Bool} (hc : curveOk l = true) : -200000000000000 ≤ levelOf l n up ∧ levelOf l n up ≤ 200000000000000 := by
  simp only [curveOk, Bool.and_eq_true, inB_iff] at hc
  obtain ⟨hl, hps, hrs⟩ := hc
  have hle := first_le l n
  by_cases c : firstAt l n < l.length
  · have ci : firstAt l n - 1 < l.length := by omega
    have r1 := row_in hrs ci
    have r2 := row_in hrs c
    simp only [levelOf, List.getElem?_eq_getElem c, List.getElem?_eq_getElem ci]
    by_cases c0 : firstAt l n = 0
    · rw [if_pos c0]; omega
    · rw [if_neg c0]
      have f1 := first_lt (n := n) (show firstAt l n - 1 < firstAt l n by omega) ci
      have f2 := first_at c
      have lv := levels_up hps (a := firstAt l n - 1) (by omega)
      simp only [show firstAt l n - 1 + 1 = firstAt l n by omega] at lv
      have hm := mul_small (a := l[firstAt l n].Level - l[firstAt l n - 1].Level) (b := n - l[firstAt l n - 1].Flow) (by omega) (by omega) (by omega) (by omega)
      have hd := div_small (b := l[firstAt l n].Flow - l[firstAt l n - 1].Flow) (by omega) hm.1 hm.2 up
      omega
  · have ce : firstAt l n = l.length := by omega
    have ci : l.length - 1 < l.length := by omega
    have r1 := row_in hrs ci
    simp only [levelOf, ce, List.getElem?_eq_none (Nat.le_refl l.length), List.getElem?_eq_getElem ci]
    omega
theorem lev_le {x : TReach} {b : TBounds} (h : reachOk x = true) : -200000000000000 ≤ (levB x b).Low ∧ (levB x b).Low ≤ 200000000000000 ∧ -200000000000000 ≤ (levB x b).High ∧ (levB x b).High ≤ 200000000000000 := by
  have hb := bottom_of h
  have l1 := level_small (n := b.Low) (up := false) (reachOk_curve h)
  have l2 := level_small (n := b.High) (up := true) (reachOk_curve h)
  have m1 := max_le (m := 200000000000000) (b := x.Weir) l1.1 l1.2 (by omega) (by omega)
  have m2 := max_le (m := 200000000000000) (b := x.Weir) l2.1 l2.2 (by omega) (by omega)
  exact ⟨m1.1, m1.2, m2.1, m2.2⟩

/-- The depth at a place of a reach. -/
def depthOf (r : TRiver) (s : List (List TBounds)) (j : Nat) (place h : Int) : TBounds := ⟨minmax true 0 ((levAt r s j h).Low - (bedOf r j place h).High), minmax true 0 ((levAt r s j h).High - (bedOf r j place h).Low)⟩
theorem streamDepth_eq {r : TRiver} {s : List (List TBounds)} {H : Nat} (h : FcOk r s H) {j kn : Nat} (hj : j < r.Reaches.length) (hk : kn < H) (place : Int) :
    F_river_stream_depth (⟨r, flowsTo r s H s.length⟩, ⟨reachAt r j, (j : Int), place, r.Shoals⟩, (kn : Int)) = some (depthOf r s j place (kn : Int)) := by
  have hb := h.bounds
  have hm := h.most
  have hln := h.len
  have hlev : F_river_stream_level (⟨r, flowsTo r s H s.length⟩, (j : Int), (kn : Int)) = some (levAt r s j (kn : Int)) := by
    simp only [F_river_stream_level, idx?_nat hj, Option.bind_some]
    rw [idx?_nat (by rw [flowsTo_length]; omega), flowsTo_get]
    simp only [Option.bind_some]
    rw [idx?_nat (by rw [rowOf_length]; omega), rowOf_get]
    simp only [Option.bind_some]
    rw [reachAt_eq hj, levelAt_eq (reachOk_curve (hb.2.2 j hj))]
    rfl
  have l1 := lev_le (b := flowAt r s j (kn : Int)) (hb.2.2 j hj)
  have l2 := bedOf_le h.river hj (place := place) (h := (kn : Int)) (by omega) (by omega)
  have e : levAt r s j (kn : Int) = levB (reachAt r j) (flowAt r s j (kn : Int)) := rfl
  rw [← e] at l1
  simp only [F_river_stream_depth, hlev, Option.bind_some, siteBed_eq h.river hj (show -1000 ≤ (kn : Int) by omega) (show (kn : Int) ≤ 1000 by omega)]
  rw [wr_in (n := (levAt r s j (kn : Int)).Low - _) (by omega) (by omega), wr_in (n := (levAt r s j (kn : Int)).High - _) (by omega) (by omega), minmax_comm _ 0, minmax_comm _ 0]
  rfl
theorem refDepth_eq {r : TRiver} {s : List (List TBounds)} {H : Nat} (h : FcOk r s H) {place k : Int} {j : Nat} (hj : j < r.Reaches.length) (ho : F_thalwegref01_Of (r, place) = some (j : Int)) (h0 : 0 ≤ k) (h1 : k < H) :
    F_thalwegref01_Depth (r, s, place, k) = some (depthOf r s j place k) := by
  have hb := h.bounds
  have hm := h.most
  have l1 := lev_le (b := flowAt r s j k) (hb.2.2 j hj)
  have l2 := bedOf_le h.river hj (place := place) (h := k) (by omega) (by omega)
  have e : levAt r s j k = levB (reachAt r j) (flowAt r s j k) := rfl
  rw [← e] at l1
  simp only [F_thalwegref01_Depth, ho, Option.bind_some, idx?_nat hj]
  rw [Flow_eq h hj h1 (by omega)]
  simp only [Option.bind_some]
  rw [reachAt_eq hj, refLevel_eq (reachOk_curve (hb.2.2 j hj)), ← e]
  simp only [Option.bind_some, refBed_eq h.river hj ho (show -1000 ≤ k by omega) (show k ≤ 1000 by omega)]
  rw [wr_in (n := (levAt r s j k).Low - _) (by omega) (by omega), wr_in (n := (levAt r s j k).High - _) (by omega) (by omega)]
  rfl
end Go.Ev
/- Chapter 1: ways, and the least depth on them. -/
set_option linter.unusedVariables false
set_option linter.unusedSimpArgs false
namespace Go.Ev
set_option maxHeartbeats 1000000

/-! errors of ways -/
def passErr (r : TRiver) (H : Int) (p : TPass) : Int := if inB p.Place 0 (tot r.Reaches - 1) then (if vB p.Hours 0 (H - 1) then 0 else 3) else 7
def wayGo (r : TRiver) (H : Int) : List TPass → Int
  | [] => 0
  | p :: l => if passErr r H p = 0 then wayGo r H l else passErr r H p
def wayErr (r : TRiver) (H : Int) (l : List TPass) : Int := if l.length = 0 then 4 else if l.length > 60 then 5 else wayGo r H l
theorem checkWay_loop {r : TRiver} {fl : List (List TBounds)} {H : Nat} (hH : H ≤ 1000) (hr : ∀ x ∈ r.Reaches, 0 ≤ x.Length ∧ x.Length ≤ 5000) (hl : r.Reaches.length ≤ 1000) (hh : F_river_stream_hours ⟨r, fl⟩ = some (H : Int)) (way : List TPass) : ∀ (m : List TPass) (k : Nat), way.drop k = m → k + m.length ≤ 1000000 →
    loopC (L_river_stream_checkWay_1 way ⟨r, fl⟩).step (k : Int) = some (if wayGo r H m = 0 then .inl () else .inr (wayGo r H m))
  | [], k, hd, _ => by
    have := drop_nil hd
    have e : (L_river_stream_checkWay_1 way ⟨r, fl⟩).step (k : Int) = some (.inr (.inl ())) := by
      simp only [L_river_stream_checkWay_1, decide_eq_false (show ¬ (k : Int) < (way.length : Int) by omega), cond_false]
    rw [loopC_eq, e]
    simp [wayGo]
  | p :: m, k, hd, hk => by
    obtain ⟨hlt, hg, hd'⟩ := drop_cons hd
    simp only [List.length_cons] at hk
    have ih := checkWay_loop hH hr hl hh way m (k + 1) hd' (by omega)
    obtain ⟨st, hst⟩ := find_in (place := p.Place) hr hl
    have e : (L_river_stream_checkWay_1 way ⟨r, fl⟩).step (k : Int) = some (if passErr r H p = 0 then .inl ((k + 1 : Nat) : Int) else .inr (.inr (passErr r H p))) := by
      simp only [L_river_stream_checkWay_1, decide_eq_true (show (k : Int) < (way.length : Int) by omega), cond_true, idx?_nat hlt, Option.bind_some, hg, hst, hh, valid_eq]
      rw [wr_nat (by omega), wr_in (n := (H : Int) - 1) (by omega) (by omega)]
      unfold passErr
      cases inB p.Place 0 (tot r.Reaches - 1) <;> cases vB p.Hours 0 ((H : Int) - 1) <;> rfl
    rw [loopC_eq, e, wayGo]
    by_cases c : passErr r H p = 0
    · rw [if_pos c, if_pos c]; exact ih
    · rw [if_neg c, if_neg c, if_neg c]
theorem checkWay_eq {r : TRiver} {fl : List (List TBounds)} {H : Nat} (hH : H ≤ 1000) (hr : ∀ x ∈ r.Reaches, 0 ≤ x.Length ∧ x.Length ≤ 5000) (hl : r.Reaches.length ≤ 1000) (hh : F_river_stream_hours ⟨r, fl⟩ = some (H : Int)) {way : List TPass} (hw : way.length ≤ 1000) :
    F_river_stream_checkWay (⟨r, fl⟩, way) = some (wayErr r H way) := by
  have hloop := checkWay_loop hH hr hl hh way way 0 rfl (by omega)
  have hloop : loopC (L_river_stream_checkWay_1 way ⟨r, fl⟩).step 0 = _ := hloop
  simp only [F_river_stream_checkWay, hloop, wayErr]
  by_cases c0 : way.length = 0
  · simp [c0]
  · rw [show (((way.length : Nat) : Int) == 0) = false by simpa using c0, if_neg c0]
    by_cases c1 : way.length > 60
    · rw [decide_eq_true (show (way.length : Int) > 60 by omega), if_pos c1]; rfl
    · rw [decide_eq_false (show ¬ (way.length : Int) > 60 by omega), if_neg c1]
      simp only [cond_false]
      by_cases c : wayGo r H way = 0
      · rw [if_pos c, c]; rfl
      · rw [if_neg c]; rfl
theorem refWay_loop {r : TRiver} {H : Nat} (hH : H ≤ 1000) (hr : ∀ x ∈ r.Reaches, 0 ≤ x.Length ∧ x.Length ≤ 5000) (hl : r.Reaches.length ≤ 1000) (way : List TPass) : ∀ (m : List TPass) (k : Nat), way.drop k = m → k + m.length ≤ 1000000 →
    loopC (L_thalwegref01_Way_1 way (H : Int) r).step (k : Int) = some (if wayGo r H m = 0 then .inl () else .inr (wayGo r H m))
  | [], k, hd, _ => by
    have := drop_nil hd
    have e : (L_thalwegref01_Way_1 way (H : Int) r).step (k : Int) = some (.inr (.inl ())) := by
      simp only [L_thalwegref01_Way_1, decide_eq_false (show ¬ (k : Int) < (way.length : Int) by omega), cond_false]
    rw [loopC_eq, e]
    simp [wayGo]
  | p :: m, k, hd, hk => by
    obtain ⟨hlt, hg, hd'⟩ := drop_cons hd
    simp only [List.length_cons] at hk
    have ih := refWay_loop hH hr hl way m (k + 1) hd' (by omega)
    have htb := tot_bound hr
    have e : (L_thalwegref01_Way_1 way (H : Int) r).step (k : Int) = some (if passErr r H p = 0 then .inl ((k + 1 : Nat) : Int) else .inr (.inr (passErr r H p))) := by
      simp only [L_thalwegref01_Way_1, decide_eq_true (show (k : Int) < (way.length : Int) by omega), cond_true, idx?_nat hlt, Option.bind_some, hg, Places_eq hr hl, In_eq, rvalid_eq]
      rw [wr_nat (by omega), wr_in (n := (H : Int) - 1) (by omega) (by omega), wr_in (n := tot r.Reaches - 1) (by omega) (by omega)]
      unfold passErr
      cases inB p.Place 0 (tot r.Reaches - 1) <;> cases vB p.Hours 0 ((H : Int) - 1) <;> rfl
    rw [loopC_eq, e, wayGo]
    by_cases c : passErr r H p = 0
    · rw [if_pos c, if_pos c]; exact ih
    · rw [if_neg c, if_neg c, if_neg c]
theorem refWay_eq {r : TRiver} {H : Nat} (hH : H ≤ 1000) (hr : ∀ x ∈ r.Reaches, 0 ≤ x.Length ∧ x.Length ≤ 5000) (hl : r.Reaches.length ≤ 1000) {way : List TPass} (hw : way.length ≤ 1000) :
    F_thalwegref01_Way (r, way, (H : Int)) = some (wayErr r H way) := by
  have hloop := refWay_loop hH hr hl way way 0 rfl (by omega)
  have hloop : loopC (L_thalwegref01_Way_1 way (H : Int) r).step 0 = _ := hloop
  simp only [F_thalwegref01_Way, hloop, wayErr]
  by_cases c0 : way.length = 0
  · simp [c0]
  · rw [show (((way.length : Nat) : Int) == 0) = false by simpa using c0, if_neg c0]
    by_cases c1 : way.length > 60
    · rw [decide_eq_true (show (way.length : Int) > 60 by omega), if_pos c1]; rfl
    · rw [decide_eq_false (show ¬ (way.length : Int) > 60 by omega), if_neg c1]
      simp only [cond_false]
      by_cases c : wayGo r H way = 0
      · rw [if_pos c, c]; rfl
      · rw [if_neg c]; rfl

/-! how small depths are -/
theorem part_le {dy t dF : Int} (hF : 0 < dF) (h0 : 0 ≤ dy) (h1 : 0 ≤ t) (h2 : t ≤ dF) (up : Bool) : 0 ≤ divB up (dy * t) dF ∧ divB up (dy * t) dF ≤ dy := by
  have m0 : 0 ≤ dy * t := Int.mul_nonneg h0 h1
  have m1 : dy * t ≤ dy * dF := Int.mul_le_mul_of_nonneg_left h2 h0
  unfold divB
  split
  · have e1 : (-(dy * t)) / dF ≤ 0 := by
      have := Int.ediv_le_ediv hF (show -(dy * t) ≤ 0 by omega)
      simpa using this
    have e2 : -dy ≤ (-(dy * t)) / dF := by
      rw [Int.le_ediv_iff_mul_le hF, Int.neg_mul]
      omega
    omega
  · refine ⟨Int.ediv_nonneg m0 (by omega), ?_⟩
    have : dy * t / dF ≤ dy * dF / dF := Int.ediv_le_ediv hF m1
    rwa [Int.mul_ediv_cancel _ (by omega)] at this
theorem level_tight {l : List TRateRow} {n : Int} {up : Bool} (hc : curveOk l = true) : 0 ≤ levelOf l n up ∧ levelOf l n up ≤ 10000 := by
  simp only [curveOk, Bool.and_eq_true, inB_iff] at hc
  obtain ⟨hl, hps, hrs⟩ := hc
  have hle := first_le l n
  by_cases c : firstAt l n < l.length
  · have ci : firstAt l n - 1 < l.length := by omega
    have r1 := row_in hrs ci
    have r2 := row_in hrs c
    simp only [levelOf, List.getElem?_eq_getElem c, List.getElem?_eq_getElem ci]
    by_cases c0 : firstAt l n = 0
    · rw [if_pos c0]; omega
    · rw [if_neg c0]
      have f1 := first_lt (n := n) (show firstAt l n - 1 < firstAt l n by omega) ci
      have f2 := first_at c
      have lv := levels_up hps (a := firstAt l n - 1) (by omega)
      simp only [show firstAt l n - 1 + 1 = firstAt l n by omega] at lv
      have hd := part_le (dy := l[firstAt l n].Level - l[firstAt l n - 1].Level) (t := n - l[firstAt l n - 1].Flow) (dF := l[firstAt l n].Flow - l[firstAt l n - 1].Flow) (by omega) (by omega) (by omega) (by omega) up
      omega
  · have ce : firstAt l n = l.length := by omega
    have ci : l.length - 1 < l.length := by omega
    have r1 := row_in hrs ci
    simp only [levelOf, ce, List.getElem?_eq_none (Nat.le_refl l.length), List.getElem?_eq_getElem ci]
    omega
theorem bedGo_ge {place h : Int} : ∀ {l : List TShoal} {a b : Int}, 0 ≤ a → 0 ≤ b → 0 ≤ (bedGo place h l a b).1 ∧ 0 ≤ (bedGo place h l a b).2
  | [], a, b, a0, b0 => ⟨a0, b0⟩
  | x :: l, a, b, a0, b0 => by
    simp only [bedGo]
    split
    · refine bedGo_ge ?_ ?_ <;> simp only [minmax, if_true] <;> split <;> omega
    · exact bedGo_ge a0 b0
theorem depth_le {r : TRiver} {s : List (List TBounds)} (hr : riverOk r = true) {j : Nat} (hj : j < r.Reaches.length) {place h : Int} : 0 ≤ (depthOf r s j place h).Low ∧ (depthOf r s j place h).Low ≤ 10000 ∧ 0 ≤ (depthOf r s j place h).High ∧ (depthOf r s j place h).High ≤ 10000 := by
  obtain ⟨p1, p2, p3, p4, p5, p6⟩ := river_parts hr
  have hb := bottom_of (p6 j hj)
  have hg := bedGo_ge (place := place) (h := h) (l := r.Shoals) hb.1 hb.2.2.1
  have l1 := level_tight (n := (flowAt r s j h).Low) (up := false) (reachOk_curve (p6 j hj))
  have l2 := level_tight (n := (flowAt r s j h).High) (up := true) (reachOk_curve (p6 j hj))
  simp only [depthOf, levAt, levB, bedOf, minmax, if_true]
  refine ⟨?_, ?_, ?_, ?_⟩ <;> (repeat' split) <;> omega
end Go.Ev
/- Chapter 1: the least depth on a way. -/
set_option linter.unusedVariables false
set_option linter.unusedSimpArgs false
namespace Go.Ev
set_option maxHeartbeats 1000000

/-! hours, one after another -/
def scanLo (d : Int → TBounds) : Nat → Int → Int → Int → Int × Int
  | 0, _, lo, hr => (lo, hr)
  | n + 1, k, lo, hr => if (d k).Low < lo then scanLo d n (k + 1) (d k).Low k else scanLo d n (k + 1) lo hr
def scanHi (d : Int → TBounds) : Nat → Int → Int → Int
  | 0, _, hi => hi
  | n + 1, k, hi => scanHi d n (k + 1) (minmax true hi (d k).High)
def scanR (d : Int → TBounds) (i : Int) : Nat → Int → Int → Int → Int → Int × Int × Int
  | 0, _, p, h, lo => (p, h, lo)
  | n + 1, k, p, h, lo => if (d k).Low < lo then scanR d i n (k + 1) i k (d k).Low else scanR d i n (k + 1) p h lo
def sel (i p0 h0 L : Int) (q : Int × Int) : Int × Int × Int := if q.1 < L then (i, q.2, q.1) else (p0, h0, L)
theorem scan_sel (d : Int → TBounds) (i p0 h0 L : Int) : ∀ (n : Nat) (k M hm : Int), scanR d i n k (sel i p0 h0 L (M, hm)).1 (sel i p0 h0 L (M, hm)).2.1 (sel i p0 h0 L (M, hm)).2.2 = sel i p0 h0 L (scanLo d n k M hm)
  | 0, k, M, hm => rfl
  | n + 1, k, M, hm => by
    have ih1 := scan_sel d i p0 h0 L n (k + 1) (d k).Low k
    have ih2 := scan_sel d i p0 h0 L n (k + 1) M hm
    simp only [scanR, scanLo]
    by_cases c1 : M < L
    · have e : sel i p0 h0 L (M, hm) = (i, hm, M) := by simp [sel, c1]
      rw [e] at ih2 ⊢
      simp only at ih2 ⊢
      by_cases c2 : (d k).Low < M
      · rw [if_pos c2, if_pos c2, ← ih1, show sel i p0 h0 L ((d k).Low, k) = (i, k, (d k).Low) by simp [sel, show (d k).Low < L by omega]]
      · rw [if_neg c2, if_neg c2]; exact ih2
    · have e : sel i p0 h0 L (M, hm) = (p0, h0, L) := by simp [sel, c1]
      rw [e] at ih2 ⊢
      simp only at ih2 ⊢
      by_cases c2 : (d k).Low < L
      · rw [if_pos c2, if_pos (show (d k).Low < M by omega), ← ih1, show sel i p0 h0 L ((d k).Low, k) = (i, k, (d k).Low) by simp [sel, c2]]
      · rw [if_neg c2]
        by_cases c3 : (d k).Low < M
        · rw [if_pos c3, ← ih1, show sel i p0 h0 L ((d k).Low, k) = (p0, h0, L) by simp [sel, c2]]
        · rw [if_neg c3]; exact ih2
theorem scan_first (d : Int → TBounds) (i p0 h0 L : Int) (n : Nat) (k : Int) : scanR d i (n + 1) k p0 h0 L = sel i p0 h0 L (scanLo d (n + 1) k (d k).Low k) := by
  have h := scan_sel d i p0 h0 L n (k + 1) (d k).Low k
  simp only [scanR, scanLo, if_neg (show ¬ (d k).Low < (d k).Low by omega)]
  rw [← h]
  by_cases c : (d k).Low < L
  · rw [if_pos c, show sel i p0 h0 L ((d k).Low, k) = (i, k, (d k).Low) by simp [sel, c]]
  · rw [if_neg c, show sel i p0 h0 L ((d k).Low, k) = (p0, h0, L) by simp [sel, c]]
theorem scanHi_first {d : Int → TBounds} {n : Nat} {k : Int} (h : 0 ≤ (d k).High) : scanHi d (n + 1) k 0 = scanHi d (n + 1) k (d k).High := by
  simp only [scanHi]
  congr 1
  simp only [minmax, if_true]
  split <;> split <;> omega
theorem scanLo_le {d : Int → TBounds} (hd : ∀ k, 0 ≤ (d k).Low ∧ (d k).Low ≤ 10000) : ∀ (n : Nat) (k M hm : Int), 0 ≤ M → M ≤ 10000 → 0 ≤ (scanLo d n k M hm).1 ∧ (scanLo d n k M hm).1 ≤ 10000
  | 0, k, M, hm, a, b => ⟨a, b⟩
  | n + 1, k, M, hm, a, b => by
    have := hd k
    simp only [scanLo]
    split
    · exact scanLo_le hd n _ _ _ (by omega) (by omega)
    · exact scanLo_le hd n _ _ _ a b
theorem scanHi_le {d : Int → TBounds} (hd : ∀ k, 0 ≤ (d k).High ∧ (d k).High ≤ 10000) : ∀ (n : Nat) (k M : Int), 0 ≤ M → M ≤ 10000 → 0 ≤ scanHi d n k M ∧ scanHi d n k M ≤ 10000
  | 0, k, M, a, b => ⟨a, b⟩
  | n + 1, k, M, a, b => by
    have := hd k
    simp only [scanHi]
    refine scanHi_le hd n _ _ ?_ ?_ <;> simp only [minmax, if_true] <;> split <;> omega

/-! places and their reaches -/
def reachNo (r : TRiver) (place : Int) : Nat := match findGo place r.Shoals r.Reaches 0 0 with
  | some s => s.number_.toNat
  | none => 0
theorem Of_eq2 {r : TRiver} {place : Int} (hr : ∀ x ∈ r.Reaches, 0 ≤ x.Length ∧ x.Length ≤ 5000) (hl : r.Reaches.length ≤ 1000) (hp : inB place 0 (tot r.Reaches - 1) = true) :
    reachNo r place < r.Reaches.length ∧ F_thalwegref01_Of (r, place) = some (reachNo r place : Int) ∧ F_river_find (r, place) = some (⟨reachAt r (reachNo r place), (reachNo r place : Int), place, r.Shoals⟩, true) := by
  rw [inB_iff] at hp
  obtain ⟨j, hj, a1, a2⟩ := Of_eq hr hl hp.1 (by omega)
  rw [reachAt_eq hj] at a2
  have e : reachNo r place = j := by
    have a3 := a2
    rw [find_eq hr hl] at a3
    unfold reachNo
    cases hf : findGo place r.Shoals r.Reaches 0 0 with
    | none => rw [hf] at a3; simp at a3
    | some s => rw [hf] at a3; simp only [Option.some.injEq, Prod.mk.injEq, and_true] at a3; subst a3; simp
  rw [e]
  exact ⟨hj, a1, a2⟩
def dAt (r : TRiver) (s : List (List TBounds)) (place h : Int) : TBounds := depthOf r s (reachNo r place) place h
def cnt (p : TPass) : Nat := (p.Hours.High - p.Hours.Low + 1).toNat
def passLo (r : TRiver) (s : List (List TBounds)) (p : TPass) : Int × Int := scanLo (dAt r s p.Place) (cnt p) p.Hours.Low (dAt r s p.Place p.Hours.Low).Low p.Hours.Low
def passHi (r : TRiver) (s : List (List TBounds)) (p : TPass) : Int := scanHi (dAt r s p.Place) (cnt p) p.Hours.Low (dAt r s p.Place p.Hours.Low).High
/-- A pass that is as it should be. -/
structure PassOk (r : TRiver) (H : Nat) (p : TPass) : Prop where
  place : inB p.Place 0 (tot r.Reaches - 1) = true
  low : 0 ≤ p.Hours.Low
  le : p.Hours.Low ≤ p.Hours.High
  high : p.Hours.High < H
theorem passOk_of {r : TRiver} {H : Nat} {p : TPass} (h : passErr r H p = 0) : PassOk r H p := by
  unfold passErr at h
  split at h
  · next h1 =>
    split at h
    · next h2 =>
      simp only [vB, Bool.and_eq_true, inB_iff, decide_eq_true_eq] at h2
      exact ⟨h1, by omega, by omega, by omega⟩
    · cases h
  · cases h

section
variable {r : TRiver} {s : List (List TBounds)} {H : Nat}
theorem depthAt {p : TPass} (h : FcOk r s H) (hp : PassOk r H p) {k : Int} (h0 : 0 ≤ k) (h1 : k < H) :
    F_river_stream_depth (⟨r, flowsTo r s H s.length⟩, ⟨reachAt r (reachNo r p.Place), (reachNo r p.Place : Int), p.Place, r.Shoals⟩, k) = some (dAt r s p.Place k) := by
  obtain ⟨hr, hrl⟩ := h.lens
  obtain ⟨hj, _, _⟩ := Of_eq2 hr (show r.Reaches.length ≤ 1000 by omega) hp.place
  obtain ⟨kn, rfl⟩ := Int.eq_ofNat_of_zero_le h0
  exact streamDepth_eq h hj (by omega) p.Place
theorem pass_loop {p : TPass} (h : FcOk r s H) (hp : PassOk r H p) : ∀ (n : Nat) (l hr lo hi : Int), 0 ≤ l → l + n = cnt p →
    loopC (L_river_stream_passDepth_1 p ⟨r, flowsTo r s H s.length⟩ (⟨reachAt r (reachNo r p.Place), (reachNo r p.Place : Int), p.Place, r.Shoals⟩, true)).step (hr, l, lo, hi) =
      some ((scanLo (dAt r s p.Place) n (p.Hours.Low + l) lo hr).2, (scanLo (dAt r s p.Place) n (p.Hours.Low + l) lo hr).1, scanHi (dAt r s p.Place) n (p.Hours.Low + l) hi)
  | 0, l, hr, lo, hi, h0, hl => by
    have hm := h.most
    have h1 := hp.low
    have h2 := hp.le
    have h3 := hp.high
    have e : (cnt p : Int) = p.Hours.High - p.Hours.Low + 1 := by unfold cnt; omega
    have e2 : (L_river_stream_passDepth_1 p ⟨r, flowsTo r s H s.length⟩ (⟨reachAt r (reachNo r p.Place), (reachNo r p.Place : Int), p.Place, r.Shoals⟩, true)).step (hr, l, lo, hi) = some (.inr (hr, lo, hi)) := by
      simp only [L_river_stream_passDepth_1]
      rw [wr_in (n := p.Hours.High - p.Hours.Low) (by omega) (by omega), wr_in (n := p.Hours.High - p.Hours.Low + 1) (by omega) (by omega), decide_eq_false (by omega)]
      rfl
    rw [loopC_eq, e2]
    rfl
  | n + 1, l, hr, lo, hi, h0, hl => by
    have hm := h.most
    have h1 := hp.low
    have h2 := hp.le
    have h3 := hp.high
    have e : (cnt p : Int) = p.Hours.High - p.Hours.Low + 1 := by unfold cnt; omega
    have ih := fun hr lo hi => pass_loop h hp n (l + 1) hr lo hi (by omega) (by omega)
    have e2 : (L_river_stream_passDepth_1 p ⟨r, flowsTo r s H s.length⟩ (⟨reachAt r (reachNo r p.Place), (reachNo r p.Place : Int), p.Place, r.Shoals⟩, true)).step (hr, l, lo, hi) =
        some (.inl (if (dAt r s p.Place (p.Hours.Low + l)).Low < lo then (p.Hours.Low + l, l + 1, (dAt r s p.Place (p.Hours.Low + l)).Low, minmax true hi (dAt r s p.Place (p.Hours.Low + l)).High) else (hr, l + 1, lo, minmax true hi (dAt r s p.Place (p.Hours.Low + l)).High))) := by
      simp only [L_river_stream_passDepth_1]
      rw [wr_in (n := p.Hours.High - p.Hours.Low) (by omega) (by omega), wr_in (n := p.Hours.High - p.Hours.Low + 1) (by omega) (by omega), decide_eq_true (by omega), wr_in (n := p.Hours.Low + l) (by omega) (by omega), wr_in (n := l + 1) (by omega) (by omega), depthAt h hp (by omega) (by omega)]
      simp only [cond_true, Option.bind_some]
      by_cases c : (dAt r s p.Place (p.Hours.Low + l)).Low < lo
      · rw [decide_eq_true c, if_pos c]; rfl
      · rw [decide_eq_false c, if_neg c]; rfl
    rw [loopC_eq, e2]
    simp only [scanLo, scanHi]
    rw [show p.Hours.Low + l + 1 = p.Hours.Low + (l + 1) by omega]
    by_cases c : (dAt r s p.Place (p.Hours.Low + l)).Low < lo
    · rw [if_pos c, if_pos c]; exact ih _ _ _
    · rw [if_neg c, if_neg c]; exact ih _ _ _
theorem passDepth_eq {p : TPass} (h : FcOk r s H) (hp : PassOk r H p) : F_river_stream_passDepth (⟨r, flowsTo r s H s.length⟩, p) = some (⟨(passLo r s p).1, passHi r s p⟩, (passLo r s p).2) := by
  obtain ⟨hr, hrl⟩ := h.lens
  obtain ⟨hj, ho, hf⟩ := Of_eq2 hr (show r.Reaches.length ≤ 1000 by omega) hp.place
  have h1 := hp.low
  have h2 := hp.le
  have h3 := hp.high
  have hl := pass_loop h hp (cnt p) 0 p.Hours.Low (dAt r s p.Place p.Hours.Low).Low (dAt r s p.Place p.Hours.Low).High (by omega) (by omega)
  simp only [F_river_stream_passDepth, hf, Option.bind_some, depthAt h hp h1 (show p.Hours.Low < H by omega), hl, Int.add_zero]
  rfl

/-! all passes -/
def shGo (r : TRiver) (s : List (List TBounds)) : List TPass → Int → Int → Int → Int → Int → Int × Int × Int × Int
  | [], _, h, lo, hi, p => (p, h, lo, hi)
  | x :: l, i, h, lo, hi, p => if (passLo r s x).1 < lo then shGo r s l (i + 1) (passLo r s x).2 (passLo r s x).1 (minmax false hi (passHi r s x)) i else shGo r s l (i + 1) h lo (minmax false hi (passHi r s x)) p
theorem short_loop (h : FcOk r s H) (e0 : Int) (way : List TPass) : ∀ (m : List TPass) (k : Nat) (hr lo hi p : Int), way.drop k = m → (∀ x ∈ m, PassOk r H x) → k + m.length ≤ 1000000 →
    loopC (L_river_Shallowest_1 (⟨r, flowsTo r s H s.length⟩, e0) way).step (hr, (k : Int), lo, hi, p) = some (shGo r s m k hr lo hi p)
  | [], k, hr, lo, hi, p, hd, _, _ => by
    have := drop_nil hd
    have e : (L_river_Shallowest_1 (⟨r, flowsTo r s H s.length⟩, e0) way).step (hr, (k : Int), lo, hi, p) = some (.inr (p, hr, lo, hi)) := by
      simp only [L_river_Shallowest_1, decide_eq_false (show ¬ (k : Int) < (way.length : Int) by omega), cond_false]
    rw [loopC_eq, e]
    rfl
  | x :: m, k, hr, lo, hi, p, hd, hx, hk => by
    obtain ⟨hlt, hg, hd'⟩ := drop_cons hd
    simp only [List.length_cons] at hk
    have ih := fun hr lo hi p => short_loop h e0 way m (k + 1) hr lo hi p hd' (fun y hy => hx y (by simp [hy])) (by omega)
    have e : (L_river_Shallowest_1 (⟨r, flowsTo r s H s.length⟩, e0) way).step (hr, (k : Int), lo, hi, p) =
        some (.inl (if (passLo r s x).1 < lo then ((passLo r s x).2, ((k + 1 : Nat) : Int), (passLo r s x).1, minmax false hi (passHi r s x), (k : Int)) else (hr, ((k + 1 : Nat) : Int), lo, minmax false hi (passHi r s x), p))) := by
      simp only [L_river_Shallowest_1, decide_eq_true (show (k : Int) < (way.length : Int) by omega), cond_true, idx?_nat hlt, Option.bind_some, hg, passDepth_eq h (hx x (by simp))]
      rw [wr_nat (by omega)]
      by_cases c : (passLo r s x).1 < lo
      · rw [decide_eq_true c, if_pos c]; rfl
      · rw [decide_eq_false c, if_neg c]; rfl
    rw [loopC_eq, e, shGo, show ((k : Int) + 1) = ((k + 1 : Nat) : Int) by omega]
    by_cases c : (passLo r s x).1 < lo
    · rw [if_pos c, if_pos c]; exact ih _ _ _ _
    · rw [if_neg c, if_neg c]; exact ih _ _ _ _
theorem refDepthAt {p : TPass} (h : FcOk r s H) (hp : PassOk r H p) {k : Int} (h0 : 0 ≤ k) (h1 : k < H) : F_thalwegref01_Depth (r, s, p.Place, k) = some (dAt r s p.Place k) := by
  obtain ⟨hr, hrl⟩ := h.lens
  obtain ⟨hj, ho, _⟩ := Of_eq2 hr (show r.Reaches.length ≤ 1000 by omega) hp.place
  exact refDepth_eq h hj ho h0 h1
theorem inner_loop (h : FcOk r s H) {way : List TPass} {i : Nat} (hi : i < way.length) (hp : PassOk r H way[i]) (s4 : Int) : ∀ (n : Nat) (k p hr most lo : Int), way[i].Hours.Low ≤ k → k + n = way[i].Hours.High + 1 →
    loopC (L_thalwegref01_Shallowest_1 s way (i : Int) r s4).step (p, hr, most, k, lo) =
      some ((scanR (dAt r s way[i].Place) i n k p hr lo).1, (scanR (dAt r s way[i].Place) i n k p hr lo).2.1, scanHi (dAt r s way[i].Place) n k most, (scanR (dAt r s way[i].Place) i n k p hr lo).2.2)
  | 0, k, p, hr, most, lo, h0, hk => by
    have e : (L_thalwegref01_Shallowest_1 s way (i : Int) r s4).step (p, hr, most, k, lo) = some (.inr (p, hr, most, lo)) := by
      simp only [L_thalwegref01_Shallowest_1, idx?_nat hi, Option.bind_some, decide_eq_false (show ¬ k ≤ way[i].Hours.High by omega), cond_false]
    rw [loopC_eq, e]
    rfl
  | n + 1, k, p, hr, most, lo, h0, hk => by
    have hm := h.most
    have h1 := hp.low
    have h2 := hp.le
    have h3 := hp.high
    have ih := fun p hr most lo => inner_loop h hi hp s4 n (k + 1) p hr most lo (by omega) (by omega)
    have e : (L_thalwegref01_Shallowest_1 s way (i : Int) r s4).step (p, hr, most, k, lo) =
        some (.inl (if (dAt r s way[i].Place k).Low < lo then ((i : Int), k, minmax true most (dAt r s way[i].Place k).High, k + 1, (dAt r s way[i].Place k).Low) else (p, hr, minmax true most (dAt r s way[i].Place k).High, k + 1, lo))) := by
      simp only [L_thalwegref01_Shallowest_1, idx?_nat hi, Option.bind_some, decide_eq_true (show k ≤ way[i].Hours.High by omega), cond_true, refDepthAt h hp (show 0 ≤ k by omega) (show k < H by omega)]
      rw [wr_in (by omega) (by omega)]
      by_cases c : (dAt r s way[i].Place k).Low < lo
      · rw [decide_eq_true c, if_pos c]; rfl
      · rw [decide_eq_false c, if_neg c]; rfl
    rw [loopC_eq, e]
    simp only [scanR, scanHi]
    by_cases c : (dAt r s way[i].Place k).Low < lo
    · rw [if_pos c, if_pos c]; exact ih _ _ _ _
    · rw [if_neg c, if_neg c]; exact ih _ _ _ _
theorem dAt_le (h : FcOk r s H) {p : TPass} (hp : PassOk r H p) (k : Int) : 0 ≤ (dAt r s p.Place k).Low ∧ (dAt r s p.Place k).Low ≤ 10000 ∧ 0 ≤ (dAt r s p.Place k).High ∧ (dAt r s p.Place k).High ≤ 10000 := by
  obtain ⟨hr, hrl⟩ := h.lens
  obtain ⟨hj, _, _⟩ := Of_eq2 hr (show r.Reaches.length ≤ 1000 by omega) hp.place
  exact depth_le h.river hj
theorem refShort_loop (h : FcOk r s H) (way : List TPass) : ∀ (m : List TPass) (k : Nat) (hr lo hi p : Int), way.drop k = m → (∀ x ∈ m, PassOk r H x) → k + m.length ≤ 1000000 →
    loopC (L_thalwegref01_Shallowest_2 s way r).step (hr, (k : Int), lo, hi, p) = some (shGo r s m k hr lo hi p)
  | [], k, hr, lo, hi, p, hd, _, _ => by
    have := drop_nil hd
    have e : (L_thalwegref01_Shallowest_2 s way r).step (hr, (k : Int), lo, hi, p) = some (.inr (p, hr, lo, hi)) := by
      simp only [L_thalwegref01_Shallowest_2, decide_eq_false (show ¬ (k : Int) < (way.length : Int) by omega), cond_false]
    rw [loopC_eq, e]
    rfl
  | x :: m, k, hr, lo, hi, p, hd, hx, hk => by
    obtain ⟨hlt, hg, hd'⟩ := drop_cons hd
    simp only [List.length_cons] at hk
    have ih := fun hr lo hi p => refShort_loop h way m (k + 1) hr lo hi p hd' (fun y hy => hx y (by simp [hy])) (by omega)
    have hp := hx x (by simp)
    have h1 := hp.low
    have h2 := hp.le
    have h3 := hp.high
    have hp' : PassOk r H way[k] := by rw [hg]; exact hp
    obtain ⟨n, hn⟩ : ∃ n : Nat, cnt x = n + 1 := ⟨(x.Hours.High - x.Hours.Low).toNat, by unfold cnt; omega⟩
    have hin := inner_loop h hlt hp' hi (n + 1) x.Hours.Low p hr 0 lo (by rw [hg]; omega) (by rw [hg]; unfold cnt at hn; omega)
    rw [hg, scan_first, scanHi_first (dAt_le h hp _).2.2.1, ← hn] at hin
    have e : (L_thalwegref01_Shallowest_2 s way r).step (hr, (k : Int), lo, hi, p) =
        some (.inl (if (passLo r s x).1 < lo then ((passLo r s x).2, ((k + 1 : Nat) : Int), (passLo r s x).1, minmax false hi (passHi r s x), (k : Int)) else (hr, ((k + 1 : Nat) : Int), lo, minmax false hi (passHi r s x), p))) := by
      simp only [L_thalwegref01_Shallowest_2, decide_eq_true (show (k : Int) < (way.length : Int) by omega), cond_true, idx?_nat hlt, Option.bind_some, hg, hin]
      rw [wr_nat (by omega)]
      by_cases c : (passLo r s x).1 < lo
      · have c' : (scanLo (dAt r s x.Place) (cnt x) x.Hours.Low (dAt r s x.Place x.Hours.Low).Low x.Hours.Low).1 < lo := c
        rw [if_pos c, sel, if_pos c']; rfl
      · have c' : ¬ (scanLo (dAt r s x.Place) (cnt x) x.Hours.Low (dAt r s x.Place x.Hours.Low).Low x.Hours.Low).1 < lo := c
        rw [if_neg c, sel, if_neg c']; rfl
    rw [loopC_eq, e, shGo, show ((k : Int) + 1) = ((k + 1 : Nat) : Int) by omega]
    by_cases c : (passLo r s x).1 < lo
    · rw [if_pos c, if_pos c]; exact ih _ _ _ _
    · rw [if_neg c, if_neg c]; exact ih _ _ _ _
/-- Where the start does not matter. -/
theorem shGo_start (h : FcOk r s H) {way : List TPass} (hw : ∀ x ∈ way, PassOk r H x) (hn : way ≠ []) (i : Int) : shGo r s way i 0 9223372036854775807 9223372036854775807 0 = shGo r s way i 0 1000000 1000000 0 := by
  match way, hn, hw with
  | x :: m, _, hw =>
    have hp := hw x (by simp)
    have hd := dAt_le h hp
    have h1 := scanLo_le (fun k => ⟨(hd k).1, (hd k).2.1⟩) (cnt x) x.Hours.Low (dAt r s x.Place x.Hours.Low).Low x.Hours.Low (hd _).1 (hd _).2.1
    have h2 := scanHi_le (fun k => ⟨(hd k).2.2.1, (hd k).2.2.2⟩) (cnt x) x.Hours.Low (dAt r s x.Place x.Hours.Low).High (hd _).2.2.1 (hd _).2.2.2
    have h1 : 0 ≤ (passLo r s x).1 ∧ (passLo r s x).1 ≤ 10000 := h1
    have h2 : 0 ≤ passHi r s x ∧ passHi r s x ≤ 10000 := h2
    simp only [shGo]
    rw [if_pos (by omega), if_pos (by omega)]
    have e1 : minmax false 9223372036854775807 (passHi r s x) = passHi r s x := by simp only [minmax]; split <;> (try split) <;> simp_all <;> omega
    have e2 : minmax false 1000000 (passHi r s x) = passHi r s x := by simp only [minmax]; split <;> (try split) <;> simp_all <;> omega
    rw [e1, e2]
end
end Go.Ev
/- Chapter 1: the law RiverShallow is true. -/
set_option linter.unusedVariables false
set_option linter.unusedSimpArgs false
namespace Go.Ev
set_option maxHeartbeats 1000000

theorem wayGo_all {r : TRiver} {H : Nat} : ∀ {l : List TPass}, wayGo r H l = 0 → ∀ p ∈ l, PassOk r H p
  | [], _, p, hp => by cases hp
  | x :: l, h, p, hp => by
    rw [wayGo] at h
    by_cases c : passErr r H x = 0
    · rw [if_pos c] at h
      rcases List.mem_cons.1 hp with rfl | hp
      · exact passOk_of c
      · exact wayGo_all h p hp
    · rw [if_neg c] at h
      exact absurd h c
theorem wayErr_ok {r : TRiver} {H : Nat} {l : List TPass} (h : wayErr r H l = 0) : l ≠ [] ∧ ∀ p ∈ l, PassOk r H p := by
  unfold wayErr at h
  split at h
  · cases h
  · next h0 =>
    split at h
    · cases h
    · exact ⟨fun e => h0 (by rw [e]; rfl), wayGo_all h⟩
theorem Shallowest_err {r : TRiver} {s : List (List TBounds)} (hz : startErr r s ≠ 0) (hs : ∀ x ∈ s, x.length ≤ 1000000) (way : List TPass) : F_river_Shallowest (r, s, way) = some (⟨0, 0⟩, 0, 0, startErr r s) := by
  simp only [F_river_Shallowest, run_err hz hs, Option.bind_some, show (startErr r s != 0) = true by simpa using hz, cond_true]
def leastOf (r : TRiver) (s : List (List TBounds)) (way : List TPass) : Int × Int × Int × Int := shGo r s way 0 0 1000000 1000000 0
theorem Shallowest_eq {r : TRiver} {s : List (List TBounds)} {H : Nat} (h : FcOk r s H) (hz : startErr r s = 0) (hs : ∀ x ∈ s, x.length ≤ 1000000) {way : List TPass} (hw : way.length ≤ 1000) :
    F_river_Shallowest (r, s, way) = some (if wayErr r H way = 0 then (⟨(leastOf r s way).2.2.1, (leastOf r s way).2.2.2⟩, (leastOf r s way).1, (leastOf r s way).2.1, 0) else (⟨0, 0⟩, 0, 0, wayErr r H way)) := by
  obtain ⟨hr, hrl⟩ := h.lens
  have hm := h.most
  have hln := h.len
  have hb := h.bounds
  have hp := h.pos
  have hhr : F_river_stream_hours ⟨r, flowsTo r s H s.length⟩ = some (H : Int) := by
    simp only [F_river_stream_hours]
    rw [show (0 : Int) = ((0 : Nat) : Int) from rfl, idx?_nat (by rw [flowsTo_length]; omega), flowsTo_get]
    simp only [Option.bind_some, rowOf_length]
  have hcw := checkWay_eq (r := r) (way := way) (show H ≤ 1000 by omega) hr (show r.Reaches.length ≤ 1000 by omega) hhr hw
  simp only [F_river_Shallowest, run_eq h hz hs, Option.bind_some, bne_self_eq_false, cond_false, hcw]
  by_cases c : wayErr r H way = 0
  · obtain ⟨w1, w2⟩ := wayErr_ok c
    have hloop : loopC (L_river_Shallowest_1 (⟨r, flowsTo r s H s.length⟩, 0) way).step (0, 0, 9223372036854775807, 9223372036854775807, 0) = some (leastOf r s way) := by
      have := short_loop h 0 way way 0 0 9223372036854775807 9223372036854775807 0 rfl w2 (by omega)
      rw [show (((0 : Nat) : Int)) = 0 from rfl, shGo_start h w2 w1] at this
      exact this
    rw [if_pos c, c]
    simp only [bne_self_eq_false, cond_false, hloop, Option.bind_some]
  · rw [if_neg c, show (wayErr r H way != 0) = true by simpa using c]
    rfl
theorem refShallowest_eq {r : TRiver} {s : List (List TBounds)} {H : Nat} (h : FcOk r s H) {way : List TPass} (hw : way.length ≤ 1000) (c : wayErr r H way = 0) :
    F_thalwegref01_Shallowest (r, s, way) = some (⟨(leastOf r s way).2.2.1, (leastOf r s way).2.2.2⟩, (leastOf r s way).1, (leastOf r s way).2.1) := by
  obtain ⟨w1, w2⟩ := wayErr_ok c
  have hloop : loopC (L_thalwegref01_Shallowest_2 s way r).step (0, 0, 1000000, 1000000, 0) = some (leastOf r s way) := refShort_loop h way way 0 0 1000000 1000000 0 rfl w2 (by omega)
  simp only [F_thalwegref01_Shallowest, hloop, Option.bind_some]
end Go.Ev
/- Chapter 1: the law RiverCloses is true. -/
set_option linter.unusedVariables false
set_option linter.unusedSimpArgs false
namespace Go.Ev
set_option maxHeartbeats 1000000
end Go.Ev
/- Chapter 1: sums of water; the law RiverKeeps is true. -/
set_option linter.unusedVariables false
set_option linter.unusedSimpArgs false
namespace Go.Ev
set_option maxHeartbeats 1000000

/-- Is a forecast one that the program accepts? -/
def validF (r : TRiver) (s : List (List TBounds)) : Bool := !largeF r s && decide (startErr r s = 0)
theorem vB_side (b : TBounds) {x y : Option (Int ⊕ Unit ⊕ Bool)} : (bif decide (b.Low < 0) then x else bif decide (b.Low > b.High) then x else bif decide (b.High > 10000000000) then x else y) = if vB b 0 10000000000 then y else x := by
  by_cases c1 : b.Low < 0
  · have : vB b 0 10000000000 = false := by rw [Bool.eq_false_iff]; simp only [vB, inB, ne_eq, Bool.and_eq_true, decide_eq_true_eq]; omega
    simp [c1, this]
  · by_cases c2 : b.Low > b.High
    · have : vB b 0 10000000000 = false := by rw [Bool.eq_false_iff]; simp only [vB, inB, ne_eq, Bool.and_eq_true, decide_eq_true_eq]; omega
      simp [c1, c2, this]
    · by_cases c3 : b.High > 10000000000
      · have : vB b 0 10000000000 = false := by rw [Bool.eq_false_iff]; simp only [vB, inB, ne_eq, Bool.and_eq_true, decide_eq_true_eq]; omega
        simp [c1, c2, c3, this]
      · have : vB b 0 10000000000 = true := by simp only [vB, inB, Bool.and_eq_true, decide_eq_true_eq]; omega
        simp [c1, c2, c3, this]
/-- The sum of n numbers of a row from the jth on. -/
def sumF (f : Nat → TBounds) : Nat → Nat → TBounds
  | _, 0 => ⟨0, 0⟩
  | j, n + 1 => addB (f j) (sumF f (j + 1) n)
theorem sumF_take {l : List TBounds} {f : Nat → TBounds} (hf : ∀ k (h : k < l.length), l[k] = f k) : ∀ (n j : Nat), j + n ≤ l.length → sumB ((l.drop j).take n) = sumF f j n
  | 0, j, _ => by simp [sumB, sumF]
  | n + 1, j, h => by
    rw [List.drop_eq_getElem_cons (show j < l.length by omega), List.take_succ_cons, sumB, sumF, sumF_take hf n (j + 1) (by omega), hf]
theorem addB_assoc (a b c : TBounds) : addB (addB a b) c = addB a (addB b c) := by simp [addB, Int.add_assoc]
theorem sumF_append (f : Nat → TBounds) : ∀ (a j b : Nat), sumF f j (a + b) = addB (sumF f j a) (sumF f (j + a) b)
  | 0, j, b => by simp [sumF, addB]
  | a + 1, j, b => by
    rw [show a + 1 + b = (a + b) + 1 by omega, sumF, sumF, sumF_append f a (j + 1) b, addB_assoc, show j + 1 + a = j + (a + 1) by omega]
theorem sumF_add (f g : Nat → TBounds) : ∀ (n j : Nat), sumF (fun k => addB (f k) (g k)) j n = addB (sumF f j n) (sumF g j n)
  | 0, j => by simp [sumF, addB]
  | n + 1, j => by
    rw [sumF, sumF, sumF, sumF_add f g n (j + 1)]
    simp only [addB, TBounds.mk.injEq]
    omega
theorem sumF_congr {f g : Nat → TBounds} : ∀ (n j : Nat), (∀ k, j ≤ k → k < j + n → f k = g k) → sumF f j n = sumF g j n
  | 0, j, _ => rfl
  | n + 1, j, h => by rw [sumF, sumF, h j (by omega) (by omega), sumF_congr n (j + 1) fun k h1 h2 => h k (by omega) (by omega)]
theorem sumF_shift (g : Nat → TBounds) {d : Nat} : ∀ (n j : Nat), d ≤ j → sumF (fun k => g (k - d)) j n = sumF g (j - d) n
  | 0, j, _ => rfl
  | n + 1, j, h => by rw [sumF, sumF, sumF_shift g n (j + 1) (by omega), show j + 1 - d = j - d + 1 by omega]
theorem sumF_upTo {f : Nat → TBounds} {m : Int} (hm : 0 ≤ m) : ∀ (n j : Nat), (∀ k, j ≤ k → k < j + n → upTo m (f k)) → upTo (m * n) (sumF f j n)
  | 0, j, _ => by simp [sumF, upTo]
  | n + 1, j, h => by
    obtain ⟨a1, a2, a3⟩ := h j (by omega) (by omega)
    obtain ⟨b1, b2, b3⟩ := sumF_upTo hm n (j + 1) fun k h1 h2 => h k (by omega) (by omega)
    rw [sumF]
    simp only [upTo, addB]
    rw [show m * ((n + 1 : Nat) : Int) = m * (n : Int) + m by rw [Int.natCast_add, Int.mul_add]; simp]
    omega

def flowF (r : TRiver) (s : List (List TBounds)) (i : Nat) (k : Nat) : TBounds := flowAt r s i (k : Int)
theorem eqB_self (a : TBounds) : (a.Low == a.Low && (a.High == a.High && true)) = true := by simp
end Go.Ev
/- Chapter 1: what the least depth on a way is. -/
set_option linter.unusedVariables false
set_option linter.unusedSimpArgs false
namespace Go.Ev
set_option maxHeartbeats 1000000

theorem scanLo_spec (d : Int → TBounds) : ∀ (n : Nat) (k M hm : Int),
    (scanLo d n k M hm = (M, hm) ∧ ∀ x, k ≤ x → x < k + n → M ≤ (d x).Low) ∨
    (k ≤ (scanLo d n k M hm).2 ∧ (scanLo d n k M hm).2 < k + n ∧ (d (scanLo d n k M hm).2).Low = (scanLo d n k M hm).1 ∧ (scanLo d n k M hm).1 < M ∧
      (∀ x, k ≤ x → x < k + n → (scanLo d n k M hm).1 ≤ (d x).Low) ∧ ∀ x, k ≤ x → x < (scanLo d n k M hm).2 → (scanLo d n k M hm).1 < (d x).Low)
  | 0, k, M, hm => .inl ⟨rfl, fun x _ _ => by omega⟩
  | n + 1, k, M, hm => by
    simp only [scanLo]
    by_cases c : (d k).Low < M
    · rw [if_pos c]
      refine .inr ?_
      rcases scanLo_spec d n (k + 1) (d k).Low k with ⟨e, h⟩ | ⟨h1, h2, h3, h4, h5, h6⟩
      · rw [e]
        refine ⟨by simp, by simp; omega, rfl, c, fun x h0 h1 => ?_, fun x h0 h1 => ?_⟩
        · by_cases hx : x = k
          · subst hx; simp
          · exact h x (by omega) (by omega)
        · simp only at h1; omega
      · refine ⟨by omega, by omega, h3, by omega, fun x h0 h1 => ?_, fun x h0 h1 => ?_⟩
        · by_cases hx : x = k
          · subst hx; omega
          · exact h5 x (by omega) (by omega)
        · by_cases hx : x = k
          · subst hx; exact h4
          · exact h6 x (by omega) (by omega)
    · rw [if_neg c]
      rcases scanLo_spec d n (k + 1) M hm with ⟨e, h⟩ | ⟨h1, h2, h3, h4, h5, h6⟩
      · refine .inl ⟨e, fun x h0 h1 => ?_⟩
        by_cases hx : x = k
        · subst hx; omega
        · exact h x (by omega) (by omega)
      · refine .inr ⟨by omega, by omega, h3, h4, fun x h0 h1 => ?_, fun x h0 h1 => ?_⟩
        · by_cases hx : x = k
          · subst hx; omega
          · exact h5 x (by omega) (by omega)
        · by_cases hx : x = k
          · subst hx; omega
          · exact h6 x (by omega) (by omega)
theorem scanHi_spec (d : Int → TBounds) : ∀ (n : Nat) (k M : Int), M ≤ scanHi d n k M ∧ (∀ x, k ≤ x → x < k + n → (d x).High ≤ scanHi d n k M) ∧ (scanHi d n k M = M ∨ ∃ x, k ≤ x ∧ x < k + n ∧ scanHi d n k M = (d x).High)
  | 0, k, M => ⟨Int.le_refl _, fun x _ _ => by omega, .inl rfl⟩
  | n + 1, k, M => by
    obtain ⟨h1, h2, h3⟩ := scanHi_spec d n (k + 1) (minmax true M (d k).High)
    have hm : M ≤ minmax true M (d k).High ∧ (d k).High ≤ minmax true M (d k).High ∧ (minmax true M (d k).High = M ∨ minmax true M (d k).High = (d k).High) := by
      simp only [minmax, if_true]
      split <;> omega
    simp only [scanHi]
    refine ⟨by omega, fun x h0 h4 => ?_, ?_⟩
    · by_cases hx : x = k
      · subst hx; omega
      · exact h2 x (by omega) (by omega)
    · rcases h3 with h3 | ⟨x, a, b, e⟩
      · rcases hm.2.2 with hm | hm
        · exact .inl (h3.trans hm)
        · exact .inr ⟨k, by omega, by omega, h3.trans hm⟩
      · exact .inr ⟨x, by omega, by omega, e⟩

section
variable {r : TRiver} {s : List (List TBounds)} {H : Nat}
theorem passLo_spec {p : TPass} (hp : PassOk r H p) : p.Hours.Low ≤ (passLo r s p).2 ∧ (passLo r s p).2 ≤ p.Hours.High ∧ (dAt r s p.Place (passLo r s p).2).Low = (passLo r s p).1 ∧
    (∀ x, p.Hours.Low ≤ x → x ≤ p.Hours.High → (passLo r s p).1 ≤ (dAt r s p.Place x).Low) ∧ ∀ x, p.Hours.Low ≤ x → x < (passLo r s p).2 → (passLo r s p).1 < (dAt r s p.Place x).Low := by
  have h1 := hp.le
  have e : (cnt p : Int) = p.Hours.High - p.Hours.Low + 1 := by unfold cnt; omega
  rcases scanLo_spec (dAt r s p.Place) (cnt p) p.Hours.Low (dAt r s p.Place p.Hours.Low).Low p.Hours.Low with ⟨q, h⟩ | ⟨h1, h2, h3, h4, h5, h6⟩
  · have q : passLo r s p = _ := q
    rw [q]
    exact ⟨Int.le_refl _, hp.le, rfl, fun x a b => h x a (by omega), fun x a b => by simp only at b; omega⟩
  · exact ⟨h1, by unfold passLo; omega, h3, fun x a b => h5 x a (by omega), h6⟩
theorem passHi_spec {p : TPass} (hp : PassOk r H p) : (∀ x, p.Hours.Low ≤ x → x ≤ p.Hours.High → (dAt r s p.Place x).High ≤ passHi r s p) ∧ ∃ x, p.Hours.Low ≤ x ∧ x ≤ p.Hours.High ∧ passHi r s p = (dAt r s p.Place x).High := by
  have h1 := hp.le
  have e : (cnt p : Int) = p.Hours.High - p.Hours.Low + 1 := by unfold cnt; omega
  obtain ⟨a, b, c⟩ := scanHi_spec (dAt r s p.Place) (cnt p) p.Hours.Low (dAt r s p.Place p.Hours.Low).High
  refine ⟨fun x h0 h2 => b x h0 (by omega), ?_⟩
  rcases c with c | ⟨x, h0, h2, h3⟩
  · exact ⟨p.Hours.Low, Int.le_refl _, hp.le, c⟩
  · exact ⟨x, h0, by omega, h3⟩
theorem shGo_lo : ∀ (l : List TPass) (i h lo hi p : Int),
    ((shGo r s l i h lo hi p).1 = p ∧ (shGo r s l i h lo hi p).2.1 = h ∧ (shGo r s l i h lo hi p).2.2.1 = lo ∧ ∀ x ∈ l, lo ≤ (passLo r s x).1) ∨
    (∃ (m : Nat) (hm : m < l.length), (shGo r s l i h lo hi p).1 = i + m ∧ (shGo r s l i h lo hi p).2.1 = (passLo r s l[m]).2 ∧ (shGo r s l i h lo hi p).2.2.1 = (passLo r s l[m]).1 ∧ (shGo r s l i h lo hi p).2.2.1 < lo ∧
      (∀ x ∈ l, (shGo r s l i h lo hi p).2.2.1 ≤ (passLo r s x).1) ∧ ∀ (n : Nat) (hn : n < l.length), n < m → (shGo r s l i h lo hi p).2.2.1 < (passLo r s l[n]).1)
  | [], i, h, lo, hi, p => .inl ⟨rfl, rfl, rfl, fun x hx => by cases hx⟩
  | y :: l, i, h, lo, hi, p => by
    simp only [shGo]
    by_cases c : (passLo r s y).1 < lo
    · rw [if_pos c]
      refine .inr ?_
      rcases shGo_lo l (i + 1) (passLo r s y).2 (passLo r s y).1 (minmax false hi (passHi r s y)) i with ⟨h1, h2, h3, h4⟩ | ⟨m, hm, h1, h2, h3, h4, h5, h6⟩
      · refine ⟨0, by simp, by rw [h1]; simp, h2, h3, by rw [h3]; exact c, fun x hx => ?_, fun n hn h0 => by omega⟩
        rw [h3]
        rcases List.mem_cons.1 hx with rfl | hx
        · exact Int.le_refl _
        · exact h4 x hx
      · refine ⟨m + 1, by simp; omega, by rw [h1]; omega, by simpa using h2, by simpa using h3, by omega, fun x hx => ?_, fun n hn h0 => ?_⟩
        · rcases List.mem_cons.1 hx with rfl | hx
          · omega
          · exact h5 x hx
        · cases n with
          | zero => simpa using h4
          | succ n => exact h6 n (by simpa using hn) (by omega)
    · rw [if_neg c]
      rcases shGo_lo l (i + 1) h lo (minmax false hi (passHi r s y)) p with ⟨h1, h2, h3, h4⟩ | ⟨m, hm, h1, h2, h3, h4, h5, h6⟩
      · refine .inl ⟨h1, h2, h3, fun x hx => ?_⟩
        rcases List.mem_cons.1 hx with rfl | hx
        · omega
        · exact h4 x hx
      · refine .inr ⟨m + 1, by simp; omega, by rw [h1]; omega, by simpa using h2, by simpa using h3, h4, fun x hx => ?_, fun n hn h0 => ?_⟩
        · rcases List.mem_cons.1 hx with rfl | hx
          · omega
          · exact h5 x hx
        · cases n with
          | zero => simp only [List.getElem_cons_zero]; omega
          | succ n => exact h6 n (by simpa using hn) (by omega)
theorem shGo_hi : ∀ (l : List TPass) (i h lo hi p : Int), (shGo r s l i h lo hi p).2.2.2 ≤ hi ∧ (∀ x ∈ l, (shGo r s l i h lo hi p).2.2.2 ≤ passHi r s x) ∧ ((shGo r s l i h lo hi p).2.2.2 = hi ∨ ∃ x ∈ l, (shGo r s l i h lo hi p).2.2.2 = passHi r s x)
  | [], i, h, lo, hi, p => ⟨Int.le_refl _, fun x hx => (by cases hx), .inl rfl⟩
  | y :: l, i, h, lo, hi, p => by
    have hm : minmax false hi (passHi r s y) ≤ hi ∧ minmax false hi (passHi r s y) ≤ passHi r s y ∧ (minmax false hi (passHi r s y) = hi ∨ minmax false hi (passHi r s y) = passHi r s y) := by
      simp only [minmax, Bool.false_eq_true, if_false]
      split <;> omega
    have key : ∀ i' h' lo' p', (shGo r s l i' h' lo' (minmax false hi (passHi r s y)) p').2.2.2 ≤ hi ∧ (∀ x ∈ y :: l, (shGo r s l i' h' lo' (minmax false hi (passHi r s y)) p').2.2.2 ≤ passHi r s x) ∧ ((shGo r s l i' h' lo' (minmax false hi (passHi r s y)) p').2.2.2 = hi ∨ ∃ x ∈ y :: l, (shGo r s l i' h' lo' (minmax false hi (passHi r s y)) p').2.2.2 = passHi r s x) := by
      intro i' h' lo' p'
      obtain ⟨h1, h2, h3⟩ := shGo_hi l i' h' lo' (minmax false hi (passHi r s y)) p'
      refine ⟨by omega, fun x hx => ?_, ?_⟩
      · rcases List.mem_cons.1 hx with rfl | hx
        · omega
        · exact h2 x hx
      · rcases h3 with h3 | ⟨x, hx, e⟩
        · rcases hm.2.2 with hm | hm
          · exact .inl (h3.trans hm)
          · exact .inr ⟨y, by simp, h3.trans hm⟩
        · exact .inr ⟨x, by simp [hx], e⟩
    simp only [shGo]
    split
    · exact key _ _ _ _
    · exact key _ _ _ _

/-- The least depth, and where and when it is. -/
structure Least (r : TRiver) (s : List (List TBounds)) (way : List TPass) (R : Int × Int × Int × Int) (m : Nat) : Prop where
  lt : m < way.length
  pass : R.1 = m
  hour : R.2.1 = (passLo r s way[m]).2
  lo : R.2.2.1 = (passLo r s way[m]).1
  all : ∀ x ∈ way, R.2.2.1 ≤ (passLo r s x).1
  first : ∀ (n : Nat) (hn : n < way.length), n < m → R.2.2.1 < (passLo r s way[n]).1
  hi : ∀ x ∈ way, R.2.2.2 ≤ passHi r s x
  some : ∃ x ∈ way, R.2.2.2 = passHi r s x
theorem passLo_small (h : FcOk r s H) {p : TPass} (hp : PassOk r H p) : 0 ≤ (passLo r s p).1 ∧ (passLo r s p).1 ≤ 10000 := by
  have hd := dAt_le h hp
  exact scanLo_le (fun k => ⟨(hd k).1, (hd k).2.1⟩) (cnt p) p.Hours.Low _ _ (hd _).1 (hd _).2.1
theorem passHi_small (h : FcOk r s H) {p : TPass} (hp : PassOk r H p) : 0 ≤ passHi r s p ∧ passHi r s p ≤ 10000 := by
  have hd := dAt_le h hp
  exact scanHi_le (fun k => ⟨(hd k).2.2.1, (hd k).2.2.2⟩) (cnt p) p.Hours.Low _ (hd _).2.2.1 (hd _).2.2.2
theorem least_of (h : FcOk r s H) {way : List TPass} (hw : ∀ x ∈ way, PassOk r H x) (hn : way ≠ []) : ∃ m, Least r s way (leastOf r s way) m := by
  obtain ⟨x0, hx0⟩ := List.exists_mem_of_ne_nil way hn
  have hs0 := passLo_small h (hw x0 hx0)
  have hh0 := passHi_small h (hw x0 hx0)
  obtain ⟨a1, a2, a3⟩ := shGo_hi (r := r) (s := s) way 0 0 1000000 1000000 0
  rcases shGo_lo (r := r) (s := s) way 0 0 1000000 1000000 0 with ⟨_, _, _, h4⟩ | ⟨m, hm, h1, h2, h3, h4, h5, h6⟩
  · have := h4 x0 hx0; omega
  · refine ⟨m, hm, by show (shGo r s way 0 0 1000000 1000000 0).1 = _; rw [h1]; omega, h2, h3, h5, h6, a2, ?_⟩
    rcases a3 with a3 | a3
    · have := a2 x0 hx0; rw [a3] at this; omega
    · exact a3

/-! Low is not above High -/
theorem levels_le {l : List TRateRow} (h : (pairs l).all pairOk = true) {a b : Nat} (hab : a ≤ b) (hb : b < l.length) : l[a].Level ≤ l[b].Level := by
  induction b with
  | zero => have : a = 0 := by omega
            subst this; exact Int.le_refl _
  | succ b ih =>
    by_cases c : a = b + 1
    · subst c; exact Int.le_refl _
    · have h1 := ih (by omega) (by omega)
      have h2 := levels_up h (a := b) (by omega)
      omega
theorem level_upper {l : List TRateRow} {n : Int} {up : Bool} (hc : curveOk l = true) (c : firstAt l n < l.length) : levelOf l n up ≤ l[firstAt l n].Level := by
  simp only [curveOk, Bool.and_eq_true, inB_iff] at hc
  obtain ⟨hl, hps, hrs⟩ := hc
  have ci : firstAt l n - 1 < l.length := by omega
  simp only [levelOf, List.getElem?_eq_getElem c, List.getElem?_eq_getElem ci]
  by_cases c0 : firstAt l n = 0
  · rw [if_pos c0]; exact Int.le_refl _
  · rw [if_neg c0]
    have f1 := first_lt (n := n) (show firstAt l n - 1 < firstAt l n by omega) ci
    have f2 := first_at c
    have lv := levels_up hps (a := firstAt l n - 1) (by omega)
    simp only [show firstAt l n - 1 + 1 = firstAt l n by omega] at lv
    have hd := part_le (dy := l[firstAt l n].Level - l[firstAt l n - 1].Level) (t := n - l[firstAt l n - 1].Flow) (dF := l[firstAt l n].Flow - l[firstAt l n - 1].Flow) (by omega) (by omega) (by omega) (by omega) up
    omega
theorem level_lower {l : List TRateRow} {n : Int} {up : Bool} (hc : curveOk l = true) (c0 : firstAt l n ≠ 0) (ci : firstAt l n - 1 < l.length) : l[firstAt l n - 1].Level ≤ levelOf l n up := by
  simp only [curveOk, Bool.and_eq_true, inB_iff] at hc
  obtain ⟨hl, hps, hrs⟩ := hc
  have hle := first_le l n
  by_cases c : firstAt l n < l.length
  · simp only [levelOf, List.getElem?_eq_getElem c, List.getElem?_eq_getElem ci]
    rw [if_neg c0]
    have f1 := first_lt (n := n) (show firstAt l n - 1 < firstAt l n by omega) ci
    have f2 := first_at c
    have lv := levels_up hps (a := firstAt l n - 1) (by omega)
    simp only [show firstAt l n - 1 + 1 = firstAt l n by omega] at lv
    have hd := part_le (dy := l[firstAt l n].Level - l[firstAt l n - 1].Level) (t := n - l[firstAt l n - 1].Flow) (dF := l[firstAt l n].Flow - l[firstAt l n - 1].Flow) (by omega) (by omega) (by omega) (by omega) up
    omega
  · have ce : l[firstAt l n]? = none := List.getElem?_eq_none (by omega)
    simp only [levelOf, ce, List.getElem?_eq_getElem ci]
    exact Int.le_refl _
theorem level_mono {l : List TRateRow} {n n' : Int} (hc : curveOk l = true) (hn : n ≤ n') : levelOf l n false ≤ levelOf l n' true := by
  have hc' := hc
  simp only [curveOk, Bool.and_eq_true, inB_iff] at hc'
  obtain ⟨hl, hps, hrs⟩ := hc'
  have hle := first_le l n
  have hle' := first_le l n'
  have hi : firstAt l n ≤ firstAt l n' := by
    by_cases c : firstAt l n' < firstAt l n
    · have a := first_lt c (by omega)
      have b := first_at (l := l) (n := n') (by omega)
      omega
    · omega
  by_cases c : firstAt l n = firstAt l n'
  · by_cases c1 : firstAt l n < l.length
    · by_cases c0 : firstAt l n = 0
      · have ci : firstAt l n - 1 < l.length := by omega
        simp only [levelOf, ← c, List.getElem?_eq_getElem c1, List.getElem?_eq_getElem ci]
        rw [if_pos c0, if_pos c0]
        exact Int.le_refl _
      · have ci : firstAt l n - 1 < l.length := by omega
        simp only [levelOf, ← c, List.getElem?_eq_getElem c1, List.getElem?_eq_getElem ci]
        rw [if_neg c0, if_neg c0]
        have f1 := first_lt (n := n) (show firstAt l n - 1 < firstAt l n by omega) ci
        have f2 := first_at c1
        have lv := levels_up hps (a := firstAt l n - 1) (by omega)
        simp only [show firstAt l n - 1 + 1 = firstAt l n by omega] at lv
        have hF : 0 < l[firstAt l n].Flow - l[firstAt l n - 1].Flow := by omega
        have hm : (l[firstAt l n].Level - l[firstAt l n - 1].Level) * (n - l[firstAt l n - 1].Flow) ≤ (l[firstAt l n].Level - l[firstAt l n - 1].Level) * (n' - l[firstAt l n - 1].Flow) := Int.mul_le_mul_of_nonneg_left (by omega) (by omega)
        generalize (l[firstAt l n].Level - l[firstAt l n - 1].Level) * (n - l[firstAt l n - 1].Flow) = u at hm ⊢
        generalize (l[firstAt l n].Level - l[firstAt l n - 1].Level) * (n' - l[firstAt l n - 1].Flow) = v at hm ⊢
        generalize l[firstAt l n].Flow - l[firstAt l n - 1].Flow = w at hF ⊢
        simp only [divB, Bool.false_eq_true, if_false, if_true]
        have e1 : u / w ≤ v / w := Int.ediv_le_ediv hF hm
        have e2 : v / w ≤ -((-v) / w) := by
          have a1 := Int.mul_ediv_add_emod v w
          have a2 := Int.mul_ediv_add_emod (-v) w
          have b1 := Int.emod_nonneg v (show w ≠ 0 by omega)
          have b2 := Int.emod_nonneg (-v) (show w ≠ 0 by omega)
          have : w * (v / w + (-v) / w) ≤ 0 := by rw [Int.mul_add]; omega
          have : v / w + (-v) / w ≤ 0 := by
            rcases Int.lt_or_le 0 (v / w + (-v) / w) with h | h
            · have := Int.mul_pos hF h; omega
            · exact h
          omega
        omega
    · have ce : firstAt l n = l.length := by omega
      have ci : l.length - 1 < l.length := by omega
      simp only [levelOf, ← c, ce, List.getElem?_eq_none (Nat.le_refl l.length), List.getElem?_eq_getElem ci]
      exact Int.le_refl _
  · have h1 := level_upper (n := n) (up := false) hc (by omega)
    have h2 := level_lower (n := n') (up := true) hc (by omega) (by omega)
    have h3 := levels_le hps (a := firstAt l n) (b := firstAt l n' - 1) (by omega) (by omega)
    omega
theorem shoal_ord {x : TShoal} (hb : x.Bed.Low ≤ x.Bed.High) (hg : x.Grow.Low ≤ x.Grow.High) (h : Int) : shoalLo x h ≤ shoalHi x h := by
  have h0 : 0 ≤ minmax true 0 (h - x.Sounded) := by simp only [minmax, if_true]; split <;> omega
  have hm := Int.mul_le_mul_of_nonneg_right hg h0
  unfold shoalLo shoalHi
  omega
theorem bedGo_ord {place h : Int} : ∀ {l : List TShoal} {a b : Int}, (∀ x ∈ l, x.Bed.Low ≤ x.Bed.High ∧ x.Grow.Low ≤ x.Grow.High) → a ≤ b → (bedGo place h l a b).1 ≤ (bedGo place h l a b).2
  | [], a, b, _, hab => hab
  | x :: l, a, b, hx, hab => by
    have ho := shoal_ord (hx x (by simp)).1 (hx x (by simp)).2 h
    simp only [bedGo]
    split
    · refine bedGo_ord (fun y hy => hx y (by simp [hy])) ?_
      simp only [minmax, if_true]
      split <;> split <;> omega
    · exact bedGo_ord (fun y hy => hx y (by simp [hy])) hab
theorem dAt_ord (h : FcOk r s H) {p : TPass} (hp : PassOk r H p) {k : Int} (h0 : 0 ≤ k) (h1 : k < H) : (dAt r s p.Place k).Low ≤ (dAt r s p.Place k).High := by
  obtain ⟨hr, hrl⟩ := h.lens
  obtain ⟨hj, _, _⟩ := Of_eq2 hr (show r.Reaches.length ≤ 1000 by omega) hp.place
  obtain ⟨kn, rfl⟩ := Int.eq_ofNat_of_zero_le h0
  have hk := h.bounds.2.2 _ hj
  have hf := h.flow_upTo (reachNo r p.Place) kn hj
  have hl := level_mono (reachOk_curve hk) hf.2.1
  have hriv := h.river
  simp only [riverOk, Bool.and_eq_true, inB_iff, List.all_eq_true, decide_eq_true_eq] at hriv
  have hsh : ∀ x ∈ r.Shoals, x.Bed.Low ≤ x.Bed.High ∧ x.Grow.Low ≤ x.Grow.High := by
    intro x hx
    have := hriv.2.2.2 x hx
    simp only [shoalOk, vB, Bool.and_eq_true, inB_iff, decide_eq_true_eq] at this
    omega
  have hb : (reachAt r (reachNo r p.Place)).Bottom.Low ≤ (reachAt r (reachNo r p.Place)).Bottom.High := by
    simp only [reachOk, vB, Bool.and_eq_true, inB_iff, decide_eq_true_eq] at hk
    omega
  have ho := bedGo_ord (place := p.Place) (h := (kn : Int)) hsh hb
  simp only [dAt, depthOf, levAt, levB, bedOf, minmax, if_true]
  (repeat' split) <;> omega
theorem least_ord (h : FcOk r s H) {way : List TPass} (hw : ∀ x ∈ way, PassOk r H x) {R : Int × Int × Int × Int} {m : Nat} (hl : Least r s way R m) : 0 ≤ R.2.2.1 ∧ R.2.2.1 ≤ R.2.2.2 := by
  obtain ⟨x, hx, e⟩ := hl.some
  have hp := hw x hx
  obtain ⟨k, k0, k1, e2⟩ := (passHi_spec (s := s) hp).2
  have a := hl.all x hx
  have b := (passLo_spec (s := s) hp).2.2.2.1 k k0 k1
  have c := dAt_ord h hp (k := k) (by have := hp.low; omega) (by have := hp.high; omega)
  have d := passLo_small h (hw _ (List.getElem_mem hl.lt))
  have f := hl.lo
  omega
/-- The least depth of two parts. -/
theorem least_parts {way u v : List TPass} {R A B : Int × Int × Int × Int} {m a b : Nat} (hR : Least r s way R m) (hA : Least r s u A a) (hB : Least r s v B b) (e : way = u ++ v) : R.2.2.1 = minmax false A.2.2.1 B.2.2.1 ∧ R.2.2.2 = minmax false A.2.2.2 B.2.2.2 := by
  have inA : ∀ x ∈ u, x ∈ way := fun x hx => by rw [e]; simp [hx]
  have inB' : ∀ x ∈ v, x ∈ way := fun x hx => by rw [e]; simp [hx]
  have a1 := hR.all _ (inA _ (List.getElem_mem hA.lt))
  have a2 := hR.all _ (inB' _ (List.getElem_mem hB.lt))
  rw [← hA.lo] at a1
  rw [← hB.lo] at a2
  have hm : way[m]'hR.lt ∈ u ∨ way[m]'hR.lt ∈ v := by
    have hsp : ∀ y, y ∈ way → y ∈ u ∨ y ∈ v := fun y hy => by rw [e] at hy; exact List.mem_append.1 hy
    exact hsp _ (List.getElem_mem hR.lt)
  have a3 : A.2.2.1 ≤ R.2.2.1 ∨ B.2.2.1 ≤ R.2.2.1 := by
    rw [hR.lo]
    rcases hm with hm | hm
    · exact .inl (hA.all _ hm)
    · exact .inr (hB.all _ hm)
  obtain ⟨xa, ha, ea⟩ := hA.some
  obtain ⟨xb, hb, eb⟩ := hB.some
  obtain ⟨xr, hr, er⟩ := hR.some
  have b1 := hR.hi _ (inA _ ha)
  have b2 := hR.hi _ (inB' _ hb)
  have b3 : A.2.2.2 ≤ R.2.2.2 ∨ B.2.2.2 ≤ R.2.2.2 := by
    rw [er]
    rw [e] at hr
    rcases List.mem_append.1 hr with hr | hr
    · exact .inl (hA.hi _ hr)
    · exact .inr (hB.hi _ hr)
  constructor <;> simp only [minmax, Bool.false_eq_true, if_false] <;> split <;> omega
/-- With more hours. -/
theorem least_wider {way : List TPass} {W : TPass → TPass} (hw : ∀ x ∈ way, PassOk r H x) (hw2 : ∀ x ∈ way, PassOk r H (W x)) (hW : ∀ x ∈ way, (W x).Place = x.Place ∧ (W x).Hours.Low ≤ x.Hours.Low ∧ x.Hours.High ≤ (W x).Hours.High) {R Z : Int × Int × Int × Int} {m z : Nat} (hR : Least r s way R m) (hZ : Least r s (way.map W) Z z) :
    Z.2.2.1 ≤ R.2.2.1 ∧ R.2.2.2 ≤ Z.2.2.2 := by
  have lo : ∀ x ∈ way, (passLo r s (W x)).1 ≤ (passLo r s x).1 := by
    intro x hx
    obtain ⟨a1, a2, a3, _, _⟩ := passLo_spec (s := s) (hw x hx)
    obtain ⟨_, _, _, b4, _⟩ := passLo_spec (s := s) (hw2 x hx)
    obtain ⟨c1, c2, c3⟩ := hW x hx
    have := b4 (passLo r s x).2 (by omega) (by omega)
    rw [c1, a3] at this
    exact this
  have hi : ∀ x ∈ way, passHi r s x ≤ passHi r s (W x) := by
    intro x hx
    obtain ⟨_, k, k0, k1, e⟩ := passHi_spec (s := s) (hw x hx)
    obtain ⟨b1, _⟩ := passHi_spec (s := s) (hw2 x hx)
    obtain ⟨c1, c2, c3⟩ := hW x hx
    have := b1 k (by omega) (by omega)
    rw [c1, ← e] at this
    exact this
  constructor
  · have hx := List.getElem_mem hR.lt
    have := hZ.all _ (List.mem_map_of_mem (f := W) hx)
    have := lo _ hx
    rw [hR.lo]
    omega
  · obtain ⟨y, hy, e⟩ := hZ.some
    obtain ⟨x, hx, rfl⟩ := List.mem_map.1 hy
    have := hR.hi x hx
    have := hi x hx
    omega
end
end Go.Ev
/- Chapter 1: the law RiverWays is true. -/
set_option linter.unusedVariables false
set_option linter.unusedSimpArgs false
namespace Go.Ev
set_option maxHeartbeats 1000000

section
variable {r : TRiver} {s : List (List TBounds)} {H : Nat}
theorem passErr_of {p : TPass} (hp : PassOk r H p) : passErr r H p = 0 := by
  have h1 := hp.low
  have h2 := hp.le
  have h3 := hp.high
  unfold passErr
  rw [if_pos hp.place, if_pos]
  simp only [vB, Bool.and_eq_true, inB_iff, decide_eq_true_eq]
  omega
theorem wayGo_of : ∀ {l : List TPass}, (∀ x ∈ l, PassOk r H x) → wayGo r H l = 0
  | [], _ => rfl
  | x :: l, h => by rw [wayGo, if_pos (passErr_of (h x (by simp)))]; exact wayGo_of fun y hy => h y (by simp [hy])
theorem wayErr_of {l : List TPass} (h : ∀ x ∈ l, PassOk r H x) (h0 : l.length ≠ 0) (h1 : l.length ≤ 60) : wayErr r H l = 0 := by
  unfold wayErr
  rw [if_neg h0, if_neg (by omega)]
  exact wayGo_of h
theorem wayGo_37 : ∀ (l : List TPass), wayGo r H l = 0 ∨ wayGo r H l = 3 ∨ wayGo r H l = 7
  | [] => .inl rfl
  | x :: l => by
    rw [wayGo]
    split
    · exact wayGo_37 l
    · unfold passErr
      split
      · split
        · exact .inl rfl
        · exact .inr (.inl rfl)
      · exact .inr (.inr rfl)
/-- A pass with more hours. -/
def widen (H : Nat) (c : Int) (p : TPass) : TPass := ⟨p.Place, ⟨minmax true 0 (p.Hours.Low - Int.tmod c 5), minmax false ((H : Int) - 1) (p.Hours.High + Int.tmod c 4)⟩⟩
theorem widen_ok {c : Int} (hc : 0 ≤ c) {p : TPass} (hp : PassOk r H p) : PassOk r H (widen H c p) ∧ (widen H c p).Place = p.Place ∧ (widen H c p).Hours.Low ≤ p.Hours.Low ∧ p.Hours.High ≤ (widen H c p).Hours.High := by
  have h1 := hp.low
  have h2 := hp.le
  have h3 := hp.high
  have t5 : 0 ≤ Int.tmod c 5 := Int.tmod_nonneg 5 hc
  have t4 : 0 ≤ Int.tmod c 4 := Int.tmod_nonneg 4 hc
  have a1 : 0 ≤ (widen H c p).Hours.Low ∧ (widen H c p).Hours.Low ≤ p.Hours.Low := by simp only [widen, minmax, if_true]; split <;> omega
  have a2 : p.Hours.High ≤ (widen H c p).Hours.High ∧ (widen H c p).Hours.High < H := by simp only [widen, minmax, Bool.false_eq_true, if_false]; split <;> omega
  exact ⟨⟨hp.place, a1.1, by omega, a2.2⟩, rfl, a1.2, a2.1⟩
theorem map_take_set {α : Type} (l : List α) (W : α → α) (k : Nat) (h : k < l.length) : ((l.map W).take k ++ l.drop k).set k (W l[k]) = (l.map W).take (k + 1) ++ l.drop (k + 1) := by
  have hl : ((l.map W).take k).length = k := by simp; omega
  rw [List.set_append_right _ _ (by omega), hl, Nat.sub_self, List.drop_eq_getElem_cons h, List.set_cons_zero, List.take_succ_eq_append_getElem (by simpa using h)]
  simp
end
end Go.Ev
/- Chapter 2: hulls that are valid. -/
set_option linter.unusedVariables false
set_option linter.unusedSimpArgs false
namespace Go.Ev
set_option maxHeartbeats 1000000

theorem every_HullSection {l : List THullSection} {p : THullSection → Option Bool} {q : THullSection → Bool} {g : FuncId} {caps : List V} (hp : ∀ x ∈ l, p x = some (q x)) (hl : l.length ≤ 4611686018427387904) : F_numbers_Every_HullSection (l, p, g, caps) = some (l.all q) := by
  unfold F_numbers_Every_HullSection
  simp only
  rw [show (0 : Int) = ((0 : Nat) : Int) from rfl, loop_list l (fun k => (k : Int)) q (e := .inl ()) (f := .inr false)]
  · cases l.all q <;> rfl
  · intro k hk
    simp only [L_numbers_Every_HullSection_1, Int.ofNat_lt, hk, decide_true, cond_true, idx?_nat hk, Option.bind_some, hp _ (List.getElem_mem hk), wr_nat (show k < 9223372036854775807 by omega)]
    cases q l[k] <;> rfl
  · simp [L_numbers_Every_HullSection_1]
theorem every_HullHold {l : List THullHold} {p : THullHold → Option Bool} {q : THullHold → Bool} {g : FuncId} {caps : List V} (hp : ∀ x ∈ l, p x = some (q x)) (hl : l.length ≤ 4611686018427387904) : F_numbers_Every_HullHold (l, p, g, caps) = some (l.all q) := by
  unfold F_numbers_Every_HullHold
  simp only
  rw [show (0 : Int) = ((0 : Nat) : Int) from rfl, loop_list l (fun k => (k : Int)) q (e := .inl ()) (f := .inr false)]
  · cases l.all q <;> rfl
  · intro k hk
    simp only [L_numbers_Every_HullHold_1, Int.ofNat_lt, hk, decide_true, cond_true, idx?_nat hk, Option.bind_some, hp _ (List.getElem_mem hk), wr_nat (show k < 9223372036854775807 by omega)]
    cases q l[k] <;> rfl
  · simp [L_numbers_Every_HullHold_1]
theorem loop_range0 {E : Type} {step : Int → Option (Int ⊕ E)} (n : Nat) (q : Nat → Bool) {e f : E} (h : ∀ k : Nat, k < n → step (k : Int) = some (if q k then .inl ((k + 1 : Nat) : Int) else .inr f)) (he : step (n : Int) = some (.inr e)) : loopC step 0 = some (if (List.range n).all q then e else f) := loop_range n (fun k : Nat => (k : Int)) q h he
theorem loop_list0 {α E : Type} {step : Int → Option (Int ⊕ E)} (l : List α) (q : α → Bool) {e f : E} (h : ∀ (k : Nat) (hk : k < l.length), step (k : Int) = some (if q l[k] then .inl ((k + 1 : Nat) : Int) else .inr f)) (he : step (l.length : Int) = some (.inr e)) : loopC step 0 = some (if l.all q then e else f) := loop_list l (fun k : Nat => (k : Int)) q h he

/-! curves -/
def rowD (l : List THullRow) (k : Nat) : THullRow := l[k]?.getD ⟨0, 0⟩
theorem rowD_get {l : List THullRow} {k : Nat} (h : k < l.length) : l[k] = rowD l k := by simp [rowD, h]
def upAt (l : List THullRow) (k : Nat) : Bool := decide ((rowD l k).Draft < (rowD l (k + 1)).Draft) && decide ((rowD l k).Volume < (rowD l (k + 1)).Volume)
/-- What a curve has to be. -/
structure Cv (l : List THullRow) : Prop where
  two : 2 ≤ l.length
  most : l.length ≤ 20
  d0 : (rowD l 0).Draft = 0
  v0 : (rowD l 0).Volume = 0
  up : ∀ k, k + 1 < l.length → (rowD l k).Draft < (rowD l (k + 1)).Draft ∧ (rowD l k).Volume < (rowD l (k + 1)).Volume
  dl : (rowD l (l.length - 1)).Draft ≤ 1000
  vl : (rowD l (l.length - 1)).Volume ≤ 100000
theorem Cv.mono {l : List THullRow} (h : Cv l) : ∀ (d j : Nat), j + d < l.length → (rowD l j).Draft ≤ (rowD l (j + d)).Draft ∧ (rowD l j).Volume ≤ (rowD l (j + d)).Volume
  | 0, j, _ => ⟨Int.le_refl _, Int.le_refl _⟩
  | d + 1, j, hd => by
    have h1 := h.mono d j (by omega)
    have h2 := h.up (j + d) (by omega)
    rw [show j + (d + 1) = j + d + 1 by omega]
    omega
theorem Cv.le {l : List THullRow} (h : Cv l) {i j : Nat} (hij : i ≤ j) (hj : j < l.length) : (rowD l i).Draft ≤ (rowD l j).Draft ∧ (rowD l i).Volume ≤ (rowD l j).Volume := by
  have := h.mono (j - i) i (by omega)
  rwa [show i + (j - i) = j by omega] at this
theorem Cv.bounds {l : List THullRow} (h : Cv l) {j : Nat} (hj : j < l.length) : 0 ≤ (rowD l j).Draft ∧ (rowD l j).Draft ≤ 1000 ∧ 0 ≤ (rowD l j).Volume ∧ (rowD l j).Volume ≤ 100000 := by
  have h1 := h.le (Nat.zero_le j) hj
  have h2 := h.le (show j ≤ l.length - 1 by omega) (by omega)
  have := h.d0; have := h.v0; have := h.dl; have := h.vl
  omega
def cvOk (l : List THullRow) : Bool := inB l.length 2 20 && (((rowD l 0).Draft == 0 && ((rowD l 0).Volume == 0 && true)) && ((List.range (l.length - 1)).all (upAt l) && (decide ((rowD l (l.length - 1)).Draft ≤ 1000) && decide ((rowD l (l.length - 1)).Volume ≤ 100000))))
theorem cvOk_iff (l : List THullRow) : cvOk l = true ↔ Cv l := by
  simp only [cvOk, Bool.and_eq_true, inB_iff, beq_iff_eq, List.all_eq_true, List.mem_range, upAt, decide_eq_true_eq, Bool.true_and, and_true]
  constructor
  · rintro ⟨⟨h1, h2⟩, ⟨h3, h4⟩, h5, h6, h7⟩
    exact ⟨by omega, by omega, h3, h4, fun k hk => h5 k (by omega), h6, h7⟩
  · intro h
    have := h.two; have := h.most
    exact ⟨⟨by omega, by omega⟩, ⟨h.d0, h.v0⟩, fun k hk => h.up k (by omega), h.dl, h.vl⟩
theorem zvalidCurve_eq (l : List THullRow) : F_hull_validCurve l = some (cvOk l) := by
  simp only [F_hull_validCurve, within1, Option.bind_some, cvOk]
  cases h1 : inB l.length 2 20 with
  | false => rfl
  | true =>
    rw [inB_iff] at h1
    simp only [Bool.not_true, cond_false, Bool.true_and]
    rw [show idx? l 0 = some l[0] from idx?_nat (show 0 < l.length by omega)]
    simp only [Option.bind_some, rowD_get (show 0 < l.length by omega)]
    cases h2 : ((rowD l 0).Draft == 0 && ((rowD l 0).Volume == 0 && true)) with
    | false => rfl
    | true =>
      simp only [Bool.not_true, cond_false, Bool.true_and]
      have hloop : loopC (L_hull_validCurve_1 l).step 1 = some (if (List.range (l.length - 1)).all (upAt l) then .inl () else .inr false) := by
        refine loop_range (E := Unit ⊕ Bool) (l.length - 1) (fun k : Nat => ((k + 1 : Nat) : Int)) (upAt l) (e := .inl ()) (f := .inr false) ?_ ?_
        · intro k hk
          simp only [L_hull_validCurve_1, Int.ofNat_lt, show k + 1 < l.length by omega, decide_true, cond_true]
          rw [wr_nat (by omega), show wr (((k + 1 : Nat) : Int) - 1) = (k : Int) by rw [wr_in (by omega) (by omega)]; omega, idx?_nat (show k < l.length by omega), idx?_nat (show k + 1 < l.length by omega)]
          simp only [Option.bind_some, rowD_get (show k < l.length by omega), rowD_get (show k + 1 < l.length by omega), upAt]
          by_cases c1 : (rowD l k).Draft < (rowD l (k + 1)).Draft
          · by_cases c2 : (rowD l k).Volume < (rowD l (k + 1)).Volume
            · simp [c1, c2, show ¬ (rowD l k).Draft ≥ (rowD l (k + 1)).Draft by omega, show ¬ (rowD l k).Volume ≥ (rowD l (k + 1)).Volume by omega]
            · simp [c1, c2, show ¬ (rowD l k).Draft ≥ (rowD l (k + 1)).Draft by omega, show (rowD l k).Volume ≥ (rowD l (k + 1)).Volume by omega]
          · simp [c1, show (rowD l k).Draft ≥ (rowD l (k + 1)).Draft by omega]
        · simp only [L_hull_validCurve_1]
          rw [show decide (((l.length - 1 + 1 : Nat) : Int) < (l.length : Int)) = false from decide_eq_false (by omega)]
          rfl
      rw [hloop]
      cases (List.range (l.length - 1)).all (upAt l) with
      | false => rfl
      | true =>
        simp only [if_true, Option.bind_some, Bool.true_and]
        rw [wr_in (by omega) (by omega), show ((l.length : Nat) : Int) - 1 = ((l.length - 1 : Nat) : Int) by omega, idx?_nat (show l.length - 1 < l.length by omega)]
        simp only [Option.bind_some, rowD_get (show l.length - 1 < l.length by omega), bif_and]

theorem bn2 {α : Type} (a b : Bool) (x y : Option α) : (bif !a then x else bif !b then x else y) = bif (a && b) then y else x := by cases a <;> cases b <;> rfl
/-! sections -/
def holdOk (len : Int) (h : THullHold) : Bool := inB h.At 0 len && inB h.Lots 0 20
def secOk (x : THullSection) : Bool := inB x.Length 1 100 && (inB x.Light 0 10000 && (inB x.Trim 1 100000 && (cvOk x.Curve && x.Holds.all (holdOk x.Length))))
theorem validSection_eq {x : THullSection} (hl : x.Holds.length ≤ 1000000) : F_hull_validSection x = some (secOk x) := by
  simp only [F_hull_validSection, within1, zvalidCurve_eq, Option.bind_some, secOk]
  rw [every_HullHold (q := holdOk x.Length) (fun h _ => by simp only [F_hull_validSection_1, within1, Option.bind_some, holdOk, bif_and]) (by omega)]
  cases inB x.Length 1 100 <;> cases inB x.Light 0 10000 <;> cases inB x.Trim 1 100000 <;> cases cvOk x.Curve <;> rfl
def refRow (l : List THullRow) (k : Nat) : Bool := inB (rowD l k).Draft 0 1000 && (inB (rowD l k).Volume 0 100000 && (if k = 0 then ((rowD l 0).Draft == 0 && ((rowD l 0).Volume == 0 && true)) else upAt l (k - 1)))
theorem refRow_iff {l : List THullRow} (h1 : 2 ≤ l.length) (h2 : l.length ≤ 20) : (List.range l.length).all (refRow l) = true ↔ Cv l := by
  simp only [List.all_eq_true, List.mem_range]
  constructor
  · intro h
    have a0 := h 0 (by omega)
    have al := h (l.length - 1) (by omega)
    simp only [refRow, Bool.and_eq_true, inB_iff, if_true, beq_iff_eq, and_true] at a0
    simp only [refRow, Bool.and_eq_true, inB_iff] at al
    refine ⟨h1, h2, a0.2.2.1, a0.2.2.2, fun k hk => ?_, al.1.2, al.2.1.2⟩
    have a := h (k + 1) hk
    simp only [refRow, Bool.and_eq_true, inB_iff, Nat.add_sub_cancel, show ¬ k + 1 = 0 by omega, if_false, upAt, decide_eq_true_eq] at a
    exact a.2.2
  · intro h k hk
    have hb := h.bounds hk
    simp only [refRow, Bool.and_eq_true, inB_iff]
    refine ⟨⟨hb.1, hb.2.1⟩, ⟨hb.2.2.1, hb.2.2.2⟩, ?_⟩
    by_cases c : k = 0
    · rw [if_pos c, h.d0, h.v0]; rfl
    · rw [if_neg c]
      have := h.up (k - 1) (by omega)
      simp only [upAt, Bool.and_eq_true, decide_eq_true_eq]
      exact this
theorem refSection_eq {x : THullSection} (hl : x.Holds.length ≤ 1000000) : F_thalwegref02_Section x = some (secOk x) := by
  simp only [F_thalwegref02_Section, In_eq, Option.bind_some, secOk]
  cases inB x.Length 1 100 with
  | false => rfl
  | true =>
    cases inB x.Light 0 10000 with
    | false => rfl
    | true =>
      cases inB x.Trim 1 100000 with
      | false => rfl
      | true =>
        simp only [Bool.not_true, cond_false, Bool.true_and]
        cases hn : inB x.Curve.length 2 20 with
        | false => simp only [cvOk, hn, Bool.false_and, Bool.not_false, cond_true]
        | true =>
          have hn' := hn
          rw [inB_iff] at hn'
          simp only [Bool.not_true, cond_false]
          rw [loop_range0 x.Curve.length (refRow x.Curve) (e := .inl ()) (f := .inr false)]
          · have hc : cvOk x.Curve = (List.range x.Curve.length).all (refRow x.Curve) := by
              rw [Bool.eq_iff_iff, cvOk_iff, refRow_iff (by omega) (by omega)]
            rw [hc]
            cases (List.range x.Curve.length).all (refRow x.Curve) with
            | false => rfl
            | true =>
              simp only [if_true, Option.bind_some, Bool.true_and]
              rw [loop_list0 x.Holds (holdOk x.Length) (e := .inl ()) (f := .inr false)]
              · cases x.Holds.all (holdOk x.Length) <;> rfl
              · intro k hk
                simp only [L_thalwegref02_Section_2, Int.ofNat_lt, hk, decide_true, cond_true, idx?_nat hk, Option.bind_some, In_eq]
                rw [wr_nat (by omega), bn2]
                show (bif holdOk x.Length x.Holds[k] then _ else _) = _
                cases holdOk x.Length x.Holds[k] <;> rfl
              · simp [L_thalwegref02_Section_2]
          · intro k hk
            have e : (L_thalwegref02_Section_1 x).step (k : Int) = bif refRow x.Curve k then some (.inl ((k + 1 : Nat) : Int)) else some (.inr (.inr false)) := by
              simp only [L_thalwegref02_Section_1, Int.ofNat_lt, hk, decide_true, cond_true, idx?_nat hk, Option.bind_some, In_eq, rowD_get hk, refRow]
              rw [wr_nat (by omega)]
              cases inB (rowD x.Curve k).Draft 0 1000 with
              | false => rfl
              | true =>
                cases inB (rowD x.Curve k).Volume 0 100000 with
                | false => rfl
                | true =>
                  simp only [Bool.not_true, cond_false, Bool.true_and]
                  by_cases c : k = 0
                  · subst c
                    simp only [if_true, show (((0 : Nat) : Int) == 0) = true from rfl, show decide (((0 : Nat) : Int) > 0) = false from rfl, cond_true, cond_false]
                    cases ((rowD x.Curve 0).Draft == 0 && ((rowD x.Curve 0).Volume == 0 && true)) <;> rfl
                  · rw [if_neg c, show (((k : Nat) : Int) == 0) = false by rw [beq_eq_false_iff_ne]; omega, show decide (((k : Nat) : Int) > 0) = true from decide_eq_true (by omega)]
                    simp only [cond_true, cond_false]
                    rw [show wr ((k : Int) - 1) = ((k - 1 : Nat) : Int) by rw [wr_in (by omega) (by omega)]; omega, idx?_nat (show k - 1 < x.Curve.length by omega)]
                    simp only [Option.bind_some, rowD_get (show k - 1 < x.Curve.length by omega), upAt, show k - 1 + 1 = k by omega]
                    by_cases c1 : (rowD x.Curve (k - 1)).Draft < (rowD x.Curve k).Draft
                    · by_cases c2 : (rowD x.Curve (k - 1)).Volume < (rowD x.Curve k).Volume
                      · simp [c1, c2, show ¬ (rowD x.Curve k).Draft ≤ (rowD x.Curve (k - 1)).Draft by omega, show ¬ (rowD x.Curve k).Volume ≤ (rowD x.Curve (k - 1)).Volume by omega]
                      · simp [c1, c2, show ¬ (rowD x.Curve k).Draft ≤ (rowD x.Curve (k - 1)).Draft by omega, show (rowD x.Curve k).Volume ≤ (rowD x.Curve (k - 1)).Volume by omega]
                    · simp [c1, show (rowD x.Curve k).Draft ≤ (rowD x.Curve (k - 1)).Draft by omega]
            rw [e]
            cases refRow x.Curve k <;> rfl
          · simp [L_thalwegref02_Section_1]
end Go.Ev
/- Chapter 2: hulls, what they are made of. -/
set_option linter.unusedVariables false
set_option linter.unusedSimpArgs false
namespace Go.Ev
set_option maxHeartbeats 1000000

theorem mulB {a b : Int} {A B : Nat} (ha : a.natAbs ≤ A) (hb : b.natAbs ≤ B) : (a * b).natAbs ≤ A * B := by
  rw [Int.natAbs_mul]; exact Nat.mul_le_mul ha hb

def lenS : List THullSection → Int
  | [] => 0
  | x :: m => x.Length + lenS m
def cntS : List THullSection → Nat
  | [] => 0
  | x :: m => x.Holds.length + cntS m
/-- The holds, each with its place from the fore end. -/
def holdsS : List THullSection → Int → List (THullHold × Int)
  | [], _ => []
  | x :: m, t => x.Holds.map (fun h => (h, t + h.At)) ++ holdsS m (t + x.Length)
def lastD (x : THullSection) : Int := (rowD x.Curve (x.Curve.length - 1)).Draft
def limS : List THullSection → Int → Int
  | [], l => l
  | x :: m, l => limS m (minmax false l (lastD x))
def trimS : List THullSection → Int
  | [] => 0
  | x :: m => x.Trim + trimS m
def lightS : List THullSection → Int
  | [] => 0
  | x :: m => x.Light + lightS m
def momS (L : Int) : List THullSection → Int → Int
  | [], _ => 0
  | x :: m, t => x.Light * (2 * t + x.Length - L) + momS L m (t + x.Length)

/-- What a section has to be, in numbers. -/
structure Sec (x : THullSection) : Prop where
  len : 1 ≤ x.Length ∧ x.Length ≤ 100
  light : 0 ≤ x.Light ∧ x.Light ≤ 10000
  trim : 1 ≤ x.Trim ∧ x.Trim ≤ 100000
  cv : Cv x.Curve
  holds : ∀ h ∈ x.Holds, 0 ≤ h.At ∧ h.At ≤ x.Length ∧ 0 ≤ h.Lots ∧ h.Lots ≤ 20
theorem sec_of {x : THullSection} (h : secOk x = true) : Sec x := by
  simp only [secOk, Bool.and_eq_true, inB_iff, cvOk_iff, List.all_eq_true, holdOk] at h
  obtain ⟨h1, h2, h3, h4, h5⟩ := h
  exact ⟨h1, h2, h3, h4, fun y hy => by have := h5 y hy; omega⟩
/-- No more than the law looks at. -/
def small (l : List THullSection) : Prop := l.length ≤ 10 ∧ ∀ x ∈ l, x.Curve.length ≤ 25 ∧ x.Holds.length ≤ 8

theorem zlength_loop (l : List THullSection) (hl : l.length ≤ 10) : ∀ (m : List THullSection) (k : Nat) (s : Int), l.drop k = m → (∀ x ∈ m, Sec x) → 0 ≤ s → s ≤ 100 * k → loopC (L_hull_length_1 l).step (s, (k : Int)) = some (s + lenS m)
  | [], k, s, h, _, _, _ => by
    have := drop_nil h
    rw [loopC_eq]
    simp [L_hull_length_1, lenS, show ¬ k < l.length by omega]
  | x :: m, k, s, h, hx, h0, h1 => by
    obtain ⟨hk, hg, hd⟩ := drop_cons h
    have := (hx x (by simp)).len
    have e : (L_hull_length_1 l).step (s, (k : Int)) = some (.inl (s + x.Length, ((k + 1 : Nat) : Int))) := by
      simp only [L_hull_length_1, Int.ofNat_lt, hk, decide_true, cond_true, idx?_nat hk, hg, Option.bind_some]
      rw [wr_nat (by omega), wr_in (by omega) (by omega)]
    rw [loopC_eq, e]
    simp only
    rw [zlength_loop l hl m (k + 1) _ hd (fun y hy => hx y (by simp [hy])) (by omega) (by omega), lenS, Int.add_assoc]
theorem zlength_eq {l : List THullSection} (hl : l.length ≤ 10) (hx : ∀ x ∈ l, Sec x) : F_hull_length l = some (lenS l) := by
  simp only [F_hull_length]
  rw [show ((0 : Int), (0 : Int)) = (0, ((0 : Nat) : Int)) from rfl, zlength_loop l hl l 0 0 rfl hx (by omega) (by omega), Int.zero_add]
  rfl
theorem rlength_loop (l : THull) (hl : l.Sections.length ≤ 10) : ∀ (m : List THullSection) (k : Nat) (s : Int), l.Sections.drop k = m → (∀ x ∈ m, Sec x) → 0 ≤ s → s ≤ 100 * k → loopC (L_thalwegref02_Length_1 l).step (s, (k : Int)) = some (s + lenS m)
  | [], k, s, h, _, _, _ => by
    have := drop_nil h
    rw [loopC_eq]
    simp [L_thalwegref02_Length_1, lenS, show ¬ k < l.Sections.length by omega]
  | x :: m, k, s, h, hx, h0, h1 => by
    obtain ⟨hk, hg, hd⟩ := drop_cons h
    have := (hx x (by simp)).len
    have e : (L_thalwegref02_Length_1 l).step (s, (k : Int)) = some (.inl (s + x.Length, ((k + 1 : Nat) : Int))) := by
      simp only [L_thalwegref02_Length_1, Int.ofNat_lt, hk, decide_true, cond_true, idx?_nat hk, hg, Option.bind_some]
      rw [wr_nat (by omega), wr_in (by omega) (by omega)]
    rw [loopC_eq, e]
    simp only
    rw [rlength_loop l hl m (k + 1) _ hd (fun y hy => hx y (by simp [hy])) (by omega) (by omega), lenS, Int.add_assoc]
theorem rlength_eq {h : THull} (hl : h.Sections.length ≤ 10) (hx : ∀ x ∈ h.Sections, Sec x) : F_thalwegref02_Length h = some (lenS h.Sections) := by
  simp only [F_thalwegref02_Length]
  rw [show ((0 : Int), (0 : Int)) = (0, ((0 : Nat) : Int)) from rfl, rlength_loop h hl h.Sections 0 0 rfl hx (by omega) (by omega), Int.zero_add]
  rfl
theorem holds_loop (l : List THullSection) (hs : small l) : ∀ (m : List THullSection) (k : Nat) (s : Nat), l.drop k = m → (∀ x ∈ m, x.Holds.length ≤ 8) → s ≤ 8 * k → k ≤ l.length → loopC (L_hull_holds_1 l).step ((s : Int), (k : Int)) = some ((s + cntS m : Nat) : Int)
  | [], k, s, h, _, _, _ => by
    have := drop_nil h
    rw [loopC_eq]
    simp [L_hull_holds_1, cntS, show ¬ k < l.length by omega]
  | x :: m, k, s, h, hx, h0, _ => by
    obtain ⟨hk, hg, hd⟩ := drop_cons h
    have := hx x (by simp)
    have := hs.1
    have e : (L_hull_holds_1 l).step ((s : Int), (k : Int)) = some (.inl (((s + x.Holds.length : Nat) : Int), ((k + 1 : Nat) : Int))) := by
      simp only [L_hull_holds_1, Int.ofNat_lt, hk, decide_true, cond_true, idx?_nat hk, hg, Option.bind_some]
      rw [wr_nat (by omega), wr_in (by omega) (by omega)]
      rfl
    rw [loopC_eq, e]
    simp only
    rw [holds_loop l hs m (k + 1) _ hd (fun y hy => hx y (by simp [hy])) (by omega) (by omega), cntS, Nat.add_assoc]
theorem holds_eq {l : List THullSection} (hs : small l) : F_hull_holds l = some (cntS l : Int) := by
  simp only [F_hull_holds]
  rw [show ((0 : Int), (0 : Int)) = (((0 : Nat) : Int), ((0 : Nat) : Int)) from rfl, holds_loop l hs l 0 0 rfl (fun x hx => (hs.2 x hx).2) (by omega) (by omega), Nat.zero_add]
  rfl

def hullOk (h : THull) : Bool := inB h.Lot 1 1000 && (inB h.Sections.length 1 6 && (h.Sections.all secOk && (decide (lenS h.Sections ≤ 200) && decide ((cntS h.Sections : Int) ≤ 4))))
theorem zCheck_eq {h : THull} (hs : small h.Sections) : F_hull_Check h = bif hullOk h then some 0 else some 2 := by
  simp only [F_hull_Check, within1, Option.bind_some, hullOk]
  cases inB h.Lot 1 1000 with
  | false => rfl
  | true =>
    cases inB h.Sections.length 1 6 with
    | false => rfl
    | true =>
      simp only [Bool.not_true, cond_false, Bool.true_and]
      rw [every_HullSection (q := secOk) (fun x hx => validSection_eq (by have := (hs.2 x hx).2; omega)) (by have := hs.1; omega)]
      simp only [Option.bind_some]
      cases ha : h.Sections.all secOk with
      | false => rfl
      | true =>
        have hx : ∀ x ∈ h.Sections, Sec x := fun x hx => sec_of (List.all_eq_true.1 ha x hx)
        simp only [Bool.not_true, cond_false, Bool.true_and, zlength_eq hs.1 hx, holds_eq hs, Option.bind_some]
        by_cases c1 : lenS h.Sections > 200
        · simp [c1, show ¬ lenS h.Sections ≤ 200 by omega]
        · by_cases c2 : (cntS h.Sections : Int) > 4
          · simp [c1, show lenS h.Sections ≤ 200 by omega, c2, show ¬ (cntS h.Sections : Int) ≤ 4 by omega]
          · simp [c1, show lenS h.Sections ≤ 200 by omega, c2, show (cntS h.Sections : Int) ≤ 4 by omega]

/-! the reference's holds -/
def gH (t : Int) (x : THullHold) : THullHold := ⟨t + x.At, x.Lots⟩
theorem rholds_in (h : THull) {k : Nat} (hk : k < h.Sections.length) (t : Int) (ht : 0 ≤ t) (ht' : t ≤ 100000) (hs : Sec h.Sections[k]) (h8 : h.Sections[k].Holds.length ≤ 8) : ∀ (m : List THullHold) (j : Nat) (acc : List THullHold), h.Sections[k].Holds.drop j = m → acc.length + m.length ≤ 1000 →
    loopC (L_thalwegref02_Holds_1 t (k : Int) h).step ((j : Int), acc) = some (acc ++ m.map (gH t))
  | [], j, acc, hd, _ => by
    have := drop_nil hd
    rw [loopC_eq]
    simp [L_thalwegref02_Holds_1, idx?_nat hk, show ¬ j < h.Sections[k].Holds.length by omega]
  | x :: m, j, acc, hd, ha => by
    obtain ⟨hj, hg, hd'⟩ := drop_cons hd
    have hb := hs.holds x (by rw [← hg]; exact List.getElem_mem hj)
    have hl := hs.len
    simp only [List.length_cons] at ha
    have e : (L_thalwegref02_Holds_1 t (k : Int) h).step ((j : Int), acc) = some (.inl (((j + 1 : Nat) : Int), acc ++ [gH t x])) := by
      simp only [L_thalwegref02_Holds_1, idx?_nat hk, Option.bind_some, Int.ofNat_lt, hj, decide_true, cond_true, idx?_nat hj, hg]
      rw [wr_nat (by omega), wr_in (by omega) (by omega), app_of (by simp; omega) (by decide)]
      rfl
    rw [loopC_eq, e]
    simp only
    rw [rholds_in h hk t ht ht' hs h8 m (j + 1) _ hd' (by simp; omega)]
    simp
theorem rholds_loop (h : THull) (hs : small h.Sections) : ∀ (m : List THullSection) (k : Nat) (t : Int) (acc : List THullHold), h.Sections.drop k = m → (∀ x ∈ m, Sec x) → 0 ≤ t → t ≤ 100 * k → acc.length ≤ 8 * k →
    loopC (L_thalwegref02_Holds_2 h).step (t, (k : Int), acc) = some (acc ++ (holdsS m t).map fun p => ⟨p.2, p.1.Lots⟩)
  | [], k, t, acc, hd, _, _, _, _ => by
    have := drop_nil hd
    rw [loopC_eq]
    simp [L_thalwegref02_Holds_2, holdsS, show ¬ k < h.Sections.length by omega]
  | x :: m, k, t, acc, hd, hx, h0, h1, h2 => by
    obtain ⟨hk, hg, hd'⟩ := drop_cons hd
    have hsx := hx x (by simp)
    have hl := hsx.len
    have h10 := hs.1
    have h8 := (hs.2 _ (List.getElem_mem hk)).2
    have e : (L_thalwegref02_Holds_2 h).step (t, (k : Int), acc) = some (.inl (t + x.Length, ((k + 1 : Nat) : Int), acc ++ x.Holds.map (gH t))) := by
      simp only [L_thalwegref02_Holds_2, Int.ofNat_lt, hk, decide_true, cond_true]
      rw [show ((0 : Int), acc) = (((0 : Nat) : Int), acc) from rfl, rholds_in h hk t h0 (by omega) (by rw [hg]; exact hsx) h8 h.Sections[k].Holds 0 acc rfl (by omega)]
      simp only [Option.bind_some, idx?_nat hk, hg]
      rw [wr_nat (by omega), wr_in (by omega) (by omega)]
    rw [hg] at h8
    rw [loopC_eq, e]
    simp only
    rw [rholds_loop h hs m (k + 1) _ _ hd' (fun y hy => hx y (by simp [hy])) (by omega) (by omega) (by simp; omega)]
    simp [holdsS, gH, Function.comp_def]
def refH (h : THull) : List THullHold := (holdsS h.Sections 0).map fun p => ⟨p.2, p.1.Lots⟩
theorem rholds_eq {h : THull} (hs : small h.Sections) (hx : ∀ x ∈ h.Sections, Sec x) : F_thalwegref02_Holds h = some (refH h) := by
  simp only [F_thalwegref02_Holds]
  rw [show ((0 : Int), (0 : Int), ([] : List THullHold)) = (0, ((0 : Nat) : Int), []) from rfl, rholds_loop h hs h.Sections 0 0 [] rfl hx (by omega) (by omega) (by simp)]
  rfl
theorem holdsS_length : ∀ (m : List THullSection) (t : Int), (holdsS m t).length = cntS m
  | [], _ => rfl
  | x :: m, t => by simp [holdsS, cntS, holdsS_length m]
theorem refHull_eq {h : THull} (hs : small h.Sections) : F_thalwegref02_Hull h = some (hullOk h) := by
  simp only [F_thalwegref02_Hull, In_eq, Option.bind_some, hullOk]
  cases inB h.Lot 1 1000 with
  | false => rfl
  | true =>
    cases inB h.Sections.length 1 6 with
    | false => rfl
    | true =>
      simp only [Bool.not_true, cond_false, Bool.true_and]
      rw [loop_list0 h.Sections secOk (e := .inl ()) (f := .inr false)]
      · cases ha : h.Sections.all secOk with
        | false => rfl
        | true =>
          have hx : ∀ x ∈ h.Sections, Sec x := fun x hx => sec_of (List.all_eq_true.1 ha x hx)
          simp only [if_true, Option.bind_some, rlength_eq hs.1 hx, rholds_eq hs hx, Bool.true_and, refH, List.length_map, holdsS_length]
          cases decide (lenS h.Sections ≤ 200) <;> rfl
      · intro k hk
        simp only [L_thalwegref02_Hull_1, Int.ofNat_lt, hk, decide_true, cond_true, idx?_nat hk, Option.bind_some]
        rw [refSection_eq (by have := (hs.2 _ (List.getElem_mem hk)).2; omega), wr_nat (by have := hs.1; omega)]
        simp only [Option.bind_some]
        cases secOk h.Sections[k] <;> rfl
      · simp [L_thalwegref02_Hull_1]

/-- A valid hull. -/
structure Hl (h : THull) : Prop where
  small : small h.Sections
  lot : 1 ≤ h.Lot ∧ h.Lot ≤ 1000
  one : 1 ≤ h.Sections.length ∧ h.Sections.length ≤ 6
  sec : ∀ x ∈ h.Sections, Sec x
  len : lenS h.Sections ≤ 200
  cnt : cntS h.Sections ≤ 4
theorem hl_of {h : THull} (hs : small h.Sections) (ho : hullOk h = true) : Hl h := by
  simp only [hullOk, Bool.and_eq_true, inB_iff, List.all_eq_true, decide_eq_true_eq] at ho
  obtain ⟨h1, h2, h3, h4, h5⟩ := ho
  exact ⟨hs, h1, by omega, fun x hx => sec_of (h3 x hx), h4, by omega⟩
theorem lenS_nonneg : ∀ {m : List THullSection}, (∀ x ∈ m, Sec x) → 0 ≤ lenS m
  | [], _ => Int.le_refl 0
  | x :: m, h => by
    have h1 := (h x (by simp)).len
    have h2 := lenS_nonneg (m := m) fun y hy => h y (by simp [hy])
    rw [lenS]; omega

/-! the ship -/
def armH (L f : Int) (x : THullHold) : Thull_hold := ⟨x, f + 2 * x.At⟩
def storS (L : Int) (l : List (THullHold × Int)) : List Thull_hold := l.map fun p => ⟨p.1, 2 * p.2 - L⟩
theorem stor_in (x : THullSection) (hsx : Sec x) (f : Int) (hf : -1000 ≤ f ∧ f ≤ 10000) (a0 : THull) (s4 s5 : Int) (x20 : THullRow) (s6 s7 s8 : Int) : ∀ (m : List THullHold) (j : Nat) (acc : List Thull_hold), x.Holds.drop j = m → acc.length + m.length ≤ 1000 → x.Holds.length ≤ 8 →
    loopC (L_hull_launch_1 f a0 s4 x s5 x20 s6 s7 s8).step ((j : Int), acc) = some (acc ++ m.map (armH 0 f))
  | [], j, acc, hd, _, _ => by
    have := drop_nil hd
    rw [loopC_eq]
    simp [L_hull_launch_1, show ¬ j < x.Holds.length by omega]
  | y :: m, j, acc, hd, ha, h8 => by
    obtain ⟨hj, hg, hd'⟩ := drop_cons hd
    have hb := hsx.holds y (by rw [← hg]; exact List.getElem_mem hj)
    have hl := hsx.len
    simp only [List.length_cons] at ha
    have e : (L_hull_launch_1 f a0 s4 x s5 x20 s6 s7 s8).step ((j : Int), acc) = some (.inl (((j + 1 : Nat) : Int), acc ++ [armH 0 f y])) := by
      simp only [L_hull_launch_1, Int.ofNat_lt, hj, decide_true, cond_true, idx?_nat hj, hg, Option.bind_some]
      rw [wr_nat (by omega), wr_in (n := 2 * y.At) (by omega) (by omega), wr_in (by omega) (by omega), app_of (by simp; omega) (by decide)]
      rfl
    rw [loopC_eq, e]
    simp only
    rw [stor_in x hsx f hf a0 s4 s5 x20 s6 s7 s8 m (j + 1) _ hd' (by simp; omega) h8]
    simp
theorem launch_loop (h : THull) (hs : small h.Sections) (L : Int) (hL : 0 ≤ L ∧ L ≤ 1000) : ∀ (m : List THullSection) (k : Nat) (t l tr ma mo : Int) (st : List Thull_hold), h.Sections.drop k = m → (∀ x ∈ m, Sec x) → k ≤ 10 → 0 ≤ t → t ≤ 100 * k → 0 ≤ tr → tr ≤ 100000 * k → 0 ≤ ma → ma ≤ 10000 * k → mo.natAbs ≤ 100000000 * k → st.length ≤ 8 * k →
    loopC (L_hull_launch_2 h).step (2 * t - L, (k : Int), l, tr, ma, mo, st) = some (limS m l, tr + trimS m, ma + lightS m, mo + momS L m t, st ++ storS L (holdsS m t))
  | [], k, t, l, tr, ma, mo, st, hd, _, _, _, _, _, _, _, _, _, _ => by
    have := drop_nil hd
    rw [loopC_eq]
    simp [L_hull_launch_2, limS, trimS, lightS, momS, storS, holdsS, show ¬ k < h.Sections.length by omega]
  | x :: m, k, t, l, tr, ma, mo, st, hd, hx, hk10, h0, h1, h2, h3, h4, h5, h6, h7 => by
    obtain ⟨hk, hg, hd'⟩ := drop_cons hd
    have hsx := hx x (by simp)
    have hl := hsx.len
    have hli := hsx.light
    have htr := hsx.trim
    have h10 := hs.1
    have h8 := (hs.2 _ (List.getElem_mem hk)).2
    have hc := hsx.cv.two
    have hc' := hsx.cv.most
    rw [hg] at h8
    have hp : (x.Light * (2 * t - L + x.Length)).natAbs ≤ 10000 * 4000 := mulB (by omega) (by omega)
    have e : (L_hull_launch_2 h).step (2 * t - L, (k : Int), l, tr, ma, mo, st) = some (.inl (2 * (t + x.Length) - L, ((k + 1 : Nat) : Int), minmax false l (lastD x), tr + x.Trim, ma + x.Light, mo + x.Light * (2 * t + x.Length - L), st ++ x.Holds.map (armH 0 (2 * t - L)))) := by
      simp only [L_hull_launch_2, Int.ofNat_lt, hk, decide_true, cond_true, idx?_nat hk, hg, Option.bind_some]
      rw [show wr (((x.Curve.length : Nat) : Int) - 1) = ((x.Curve.length - 1 : Nat) : Int) by rw [wr_in (by omega) (by omega)]; omega, idx?_nat (show x.Curve.length - 1 < x.Curve.length by omega)]
      simp only [Option.bind_some]
      rw [show ((0 : Int), st) = (((0 : Nat) : Int), st) from rfl, stor_in x hsx (2 * t - L) (by omega) h (k : Int) l x.Curve[x.Curve.length - 1] tr ma mo x.Holds 0 st rfl (by omega) h8]
      simp only [Option.bind_some]
      rw [wr_nat (by omega), wr_in (n := 2 * x.Length) (by omega) (by omega), wr_in (n := 2 * t - L + 2 * x.Length) (by omega) (by omega), wr_in (n := tr + x.Trim) (by omega) (by omega), wr_in (n := ma + x.Light) (by omega) (by omega),
        wr_in (n := 2 * t - L + x.Length) (by omega) (by omega), wr_in (n := x.Light * (2 * t - L + x.Length)) (by omega) (by omega), wr_in (n := mo + x.Light * (2 * t - L + x.Length)) (by omega) (by omega),
        rowD_get (show x.Curve.length - 1 < x.Curve.length by omega), show 2 * t - L + 2 * x.Length = 2 * (t + x.Length) - L by omega, show 2 * t - L + x.Length = 2 * t + x.Length - L by omega]
      rfl
    rw [show 2 * t - L + x.Length = 2 * t + x.Length - L by omega] at hp
    rw [loopC_eq, e]
    simp only
    rw [launch_loop h hs L hL m (k + 1) (t + x.Length) _ _ _ _ _ hd' (fun y hy => hx y (by simp [hy])) (by omega) (by omega) (by omega) (by omega) (by omega) (by omega) (by omega) (by omega) (by simp; omega)]
    simp only [limS, trimS, lightS, momS, storS, holdsS, List.map_append, List.map_map, Int.add_assoc, List.append_assoc, Option.some.injEq, Prod.mk.injEq, true_and]
    congr 2
    refine List.map_congr_left fun y _ => ?_
    simp only [armH, Function.comp_def, Thull_hold.mk.injEq, true_and]
    omega
/-- The ship of a valid hull. -/
def shipOf (h : THull) : Thull_ship := ⟨h, limS h.Sections 1000, trimS h.Sections, lightS h.Sections, momS (lenS h.Sections) h.Sections 0, storS (lenS h.Sections) (holdsS h.Sections 0)⟩
def noShip : Thull_ship := ⟨⟨0, []⟩, 0, 0, 0, 0, []⟩
theorem launch_eq {h : THull} (hs : small h.Sections) : F_hull_launch h = some (bif hullOk h then (shipOf h, 0) else (noShip, 2)) := by
  simp only [F_hull_launch, zCheck_eq hs]
  cases ho : hullOk h with
  | false => rfl
  | true =>
    have hh := hl_of hs ho
    have hn := lenS_nonneg hh.sec
    have hle := hh.len
    simp only [cond_true, Option.bind_some, bne_self_eq_false, cond_false, zlength_eq hs.1 hh.sec]
    rw [wr_in (n := 0 - lenS h.Sections) (by omega) (by omega), show ((0 : Int) - lenS h.Sections, (0 : Int), (1000 : Int), (0 : Int), (0 : Int), (0 : Int), ([] : List Thull_hold)) = (2 * 0 - lenS h.Sections, ((0 : Nat) : Int), 1000, 0, 0, 0, []) from rfl,
      launch_loop h hs (lenS h.Sections) (by omega) h.Sections 0 0 1000 0 0 0 [] rfl hh.sec (by omega) (by omega) (by omega) (by omega) (by omega) (by omega) (by omega) (by simp) (by simp)]
    simp only [Option.bind_some, Int.zero_add, List.nil_append]
    rfl
end Go.Ev
/- Chapter 2: volumes, and the least drafts. -/
set_option linter.unusedVariables false
set_option linter.unusedSimpArgs false
namespace Go.Ev
set_option maxHeartbeats 1000000

/-- The segment of a curve in which a draft lies. -/
def idxC (l : List THullRow) (d : Int) : Nat := (List.range (l.length - 1)).findIdx fun k => decide (d ≤ (rowD l (k + 1)).Draft)
def valC (l : List THullRow) (k : Nat) (d : Int) : Int := (rowD l k).Volume + Int.tdiv (((rowD l (k + 1)).Volume - (rowD l k).Volume) * (d - (rowD l k).Draft)) ((rowD l (k + 1)).Draft - (rowD l k).Draft)
def cvAt (l : List THullRow) (d : Int) : Int := valC l (idxC l d) d
theorem idx_spec {l : List THullRow} (h : Cv l) {d : Int} (hd : d ≤ (rowD l (l.length - 1)).Draft) : idxC l d + 1 < l.length ∧ d ≤ (rowD l (idxC l d + 1)).Draft ∧ ∀ j, j < idxC l d → (rowD l (j + 1)).Draft < d := by
  have h2 := h.two
  have hlt : idxC l d < (List.range (l.length - 1)).length := List.findIdx_lt_length_of_exists ⟨l.length - 2, List.mem_range.2 (by omega), by rw [show l.length - 2 + 1 = l.length - 1 by omega]; simpa using hd⟩
  have hlt' := hlt
  rw [List.length_range] at hlt'
  have key : ∀ k (hk : k < (List.range (l.length - 1)).length), (List.range (l.length - 1))[k] = k := fun k hk => List.getElem_range hk
  have hget : d ≤ (rowD l ((List.range (l.length - 1))[idxC l d] + 1)).Draft := of_decide_eq_true (List.findIdx_getElem (p := fun k => decide (d ≤ (rowD l (k + 1)).Draft)) (xs := List.range (l.length - 1)) (w := hlt))
  rw [key] at hget
  refine ⟨by omega, hget, fun j hj => ?_⟩
  have hjl : j < (List.range (l.length - 1)).length := by omega
  have := List.not_of_lt_findIdx (p := fun k => decide (d ≤ (rowD l (k + 1)).Draft)) (xs := List.range (l.length - 1)) (i := j) hj
  have h3 : ¬ d ≤ (rowD l ((List.range (l.length - 1))[j] + 1)).Draft := of_decide_eq_false (by simpa only [Bool.not_eq_true] using this)
  rw [key] at h3
  omega
/-- What is known of the segment. -/
structure Seg (l : List THullRow) (k : Nat) (d : Int) : Prop where
  lt : k + 1 < l.length
  lo : (rowD l k).Draft ≤ d
  hi : d ≤ (rowD l (k + 1)).Draft
theorem seg_of {l : List THullRow} (h : Cv l) {d : Int} (h0 : 0 ≤ d) (hd : d ≤ (rowD l (l.length - 1)).Draft) : Seg l (idxC l d) d := by
  obtain ⟨h1, h2, h3⟩ := idx_spec h hd
  refine ⟨h1, ?_, h2⟩
  cases hk : idxC l d with
  | zero => rw [h.d0]; exact h0
  | succ k => have := h3 k (by omega); omega
theorem val_bound {l : List THullRow} (h : Cv l) {k : Nat} {d : Int} (s : Seg l k d) : (rowD l k).Volume ≤ valC l k d ∧ valC l k d ≤ (rowD l (k + 1)).Volume := by
  obtain ⟨h1, h2, h3⟩ := s
  have hu := h.up k h1
  have hn : 0 ≤ ((rowD l (k + 1)).Volume - (rowD l k).Volume) * (d - (rowD l k).Draft) := Int.mul_nonneg (by omega) (by omega)
  have e := Int.tdiv_eq_ediv_of_nonneg (b := (rowD l (k + 1)).Draft - (rowD l k).Draft) hn
  have h0 : 0 ≤ ((rowD l (k + 1)).Volume - (rowD l k).Volume) * (d - (rowD l k).Draft) / ((rowD l (k + 1)).Draft - (rowD l k).Draft) := Int.ediv_nonneg hn (by omega)
  have hle : ((rowD l (k + 1)).Volume - (rowD l k).Volume) * (d - (rowD l k).Draft) / ((rowD l (k + 1)).Draft - (rowD l k).Draft) ≤ (rowD l (k + 1)).Volume - (rowD l k).Volume := by
    refine Int.ediv_le_of_le_mul (by omega) ?_
    exact Int.mul_le_mul_of_nonneg_left (by omega) (by omega)
  unfold valC
  rw [e]
  omega
theorem val_mono {l : List THullRow} (h : Cv l) {k : Nat} {d d' : Int} (s : Seg l k d) (hd : d ≤ d') : valC l k d ≤ valC l k d' := by
  obtain ⟨h1, h2, h3⟩ := s
  have hu := h.up k h1
  have hn : 0 ≤ ((rowD l (k + 1)).Volume - (rowD l k).Volume) * (d - (rowD l k).Draft) := Int.mul_nonneg (by omega) (by omega)
  have hm : ((rowD l (k + 1)).Volume - (rowD l k).Volume) * (d - (rowD l k).Draft) ≤ ((rowD l (k + 1)).Volume - (rowD l k).Volume) * (d' - (rowD l k).Draft) := Int.mul_le_mul_of_nonneg_left (by omega) (by omega)
  unfold valC
  rw [Int.tdiv_eq_ediv_of_nonneg hn, Int.tdiv_eq_ediv_of_nonneg (Int.le_trans hn hm)]
  have := Int.ediv_le_ediv (c := (rowD l (k + 1)).Draft - (rowD l k).Draft) (by omega) hm
  omega
theorem cv_mono {l : List THullRow} (h : Cv l) {d d' : Int} (h0 : 0 ≤ d) (hd : d ≤ d') (hd' : d' ≤ (rowD l (l.length - 1)).Draft) : cvAt l d ≤ cvAt l d' := by
  have s := seg_of h h0 (show d ≤ (rowD l (l.length - 1)).Draft by omega)
  have s' := seg_of h (show 0 ≤ d' by omega) hd'
  obtain ⟨a1, a2, a3⟩ := idx_spec h (show d ≤ (rowD l (l.length - 1)).Draft by omega)
  obtain ⟨b1, b2, b3⟩ := idx_spec h hd'
  rcases Nat.lt_trichotomy (idxC l d) (idxC l d') with c | c | c
  · have v := (val_bound h s).2
    have v' := (val_bound h s').1
    have := (h.le (i := idxC l d + 1) (j := idxC l d') c (by omega)).2
    unfold cvAt
    omega
  · unfold cvAt
    rw [← c]
    exact val_mono h s hd
  · have := a3 (idxC l d') c
    omega
theorem cv_bound {l : List THullRow} (h : Cv l) {d : Int} (h0 : 0 ≤ d) (hd : d ≤ (rowD l (l.length - 1)).Draft) : 0 ≤ cvAt l d ∧ cvAt l d ≤ 100000 := by
  have s := seg_of h h0 hd
  have v := val_bound h s
  have b1 := h.bounds (show idxC l d < l.length by have := s.lt; omega)
  have b2 := h.bounds s.lt
  unfold cvAt
  omega

theorem val_wr {l : List THullRow} (h : Cv l) {k : Nat} {d : Int} (s : Seg l k d) : wr ((rowD l k).Volume + wr (Int.tdiv (wr (wr ((rowD l (k + 1)).Volume - (rowD l k).Volume) * wr (d - (rowD l k).Draft))) (wr ((rowD l (k + 1)).Draft - (rowD l k).Draft)))) = valC l k d := by
  have b1 := h.bounds (show k < l.length by have := s.lt; omega)
  have b2 := h.bounds s.lt
  have v := val_bound h s
  have hlo := s.lo
  have hhi := s.hi
  have hp : (((rowD l (k + 1)).Volume - (rowD l k).Volume) * (d - (rowD l k).Draft)).natAbs ≤ 100000 * 1000 := mulB (by omega) (by omega)
  unfold valC at v ⊢
  rw [wr_in (n := (rowD l (k + 1)).Volume - (rowD l k).Volume) (by omega) (by omega), wr_in (n := d - (rowD l k).Draft) (by omega) (by omega), wr_in (n := ((rowD l (k + 1)).Volume - (rowD l k).Volume) * (d - (rowD l k).Draft)) (by omega) (by omega),
    wr_in (n := (rowD l (k + 1)).Draft - (rowD l k).Draft) (by omega) (by omega)]
  rw [wr_in (n := Int.tdiv _ _) (by omega) (by omega), wr_in (by omega) (by omega)]
theorem zcurveAt_eq {l : List THullRow} (h : Cv l) {d : Int} (h0 : 0 ≤ d) (hd : d ≤ (rowD l (l.length - 1)).Draft) : F_hull_curveAt (l, d) = some (cvAt l d) := by
  obtain ⟨a1, a2, a3⟩ := idx_spec h hd
  have s := seg_of h h0 hd
  have h20 := h.most
  have hu := h.up _ a1
  have b1 := h.bounds (show idxC l d < l.length by omega)
  have b2 := h.bounds a1
  simp only [F_hull_curveAt]
  rw [show slc? l 1 ((l.length : Nat) : Int) = some ((l.drop 1).take (l.length - 1)) from slc?_nat (j := 1) (by omega) (by omega), List.take_of_length_le (by simp)]
  simp only [Option.bind_some]
  have hi : ∀ g caps, F_slices_IndexFunc_L_HullRow_HullRow (l.drop 1, (fun q => F_hull_curveAt_1 (q, d)), g, caps) = some ((idxC l d : Nat) : Int) := by
    intro g caps
    have hget : ∀ k (hk : k < (l.drop 1).length), (l.drop 1)[k] = rowD l (k + 1) := by
      intro k hk
      rw [List.length_drop] at hk
      rw [List.getElem_drop, rowD_get (show 1 + k < l.length by omega), Nat.add_comm]
    have hloop : loopC (L_slices_IndexFunc_L_HullRow_HullRow_1 (l.drop 1) (fun q => F_hull_curveAt_1 (q, d)) g caps).step 0 = some (.inr ((idxC l d : Nat) : Int)) := by
      refine loop_run (E := Unit ⊕ Int) (fun k : Nat => (k : Int)) (idxC l d) (e := .inr ((idxC l d : Nat) : Int)) ?_ ?_
      · intro k hk
        have hkl : k < (l.drop 1).length := by rw [List.length_drop]; omega
        have := a3 k hk
        simp only [L_slices_IndexFunc_L_HullRow_HullRow_1, Int.ofNat_lt, hkl, decide_true, cond_true, idx?_nat hkl, Option.bind_some, hget k hkl, F_hull_curveAt_1]
        rw [show decide (d ≤ (rowD l (k + 1)).Draft) = false from decide_eq_false (by omega), wr_nat (by omega)]
        rfl
      · have hkl : idxC l d < (l.drop 1).length := by rw [List.length_drop]; omega
        simp only [L_slices_IndexFunc_L_HullRow_HullRow_1, Int.ofNat_lt, hkl, decide_true, cond_true, idx?_nat hkl, Option.bind_some, hget _ hkl, F_hull_curveAt_1]
        rw [show decide (d ≤ (rowD l (idxC l d + 1)).Draft) = true from decide_eq_true a2]
        rfl
    simp only [F_slices_IndexFunc_L_HullRow_HullRow, hloop, Option.bind_some]
  rw [hi]
  simp only [Option.bind_some]
  rw [idx?_nat (show idxC l d < l.length by omega), wr_nat (by omega), idx?_nat a1]
  simp only [Option.bind_some, rowD_get (show idxC l d < l.length by omega), rowD_get a1]
  rw [nz_of (show wr ((rowD l (idxC l d + 1)).Draft - (rowD l (idxC l d)).Draft) ≠ 0 by rw [wr_in (by omega) (by omega)]; omega)]
  simp only [Option.bind_some, val_wr h s]
  rfl
theorem rcurve_eq {l : List THullRow} (h : Cv l) {d : Int} (h0 : 0 ≤ d) (hd : d ≤ (rowD l (l.length - 1)).Draft) (x : THullSection) (hx : x.Curve = l) (s1 s2 : Int) (a0 : THull) : loopC (L_thalwegref02_Volume_1 d s1 s2 x a0).step 1 = some ((idxC l d + 1 : Nat) : Int) := by
  obtain ⟨a1, a2, a3⟩ := idx_spec h hd
  have h20 := h.most
  refine loop_run (fun k : Nat => ((k + 1 : Nat) : Int)) (idxC l d) (e := ((idxC l d + 1 : Nat) : Int)) ?_ ?_
  · intro k hk
    have := a3 k hk
    simp only [L_thalwegref02_Volume_1, hx]
    rw [idx?_nat (show k + 1 < l.length by omega)]
    simp only [Option.bind_some, rowD_get (show k + 1 < l.length by omega)]
    rw [show decide ((rowD l (k + 1)).Draft < d) = true from decide_eq_true this, wr_nat (by omega)]
    rfl
  · simp only [L_thalwegref02_Volume_1, hx]
    rw [idx?_nat a1]
    simp only [Option.bind_some, rowD_get a1]
    rw [show decide ((rowD l (idxC l d + 1)).Draft < d) = false from decide_eq_false (by omega)]
    rfl

def volS : List THullSection → Int → Int
  | [], _ => 0
  | x :: m, d => cvAt x.Curve d + volS m d
/-- A draft that all sections have. -/
def fits (m : List THullSection) (d : Int) : Prop := 0 ≤ d ∧ ∀ x ∈ m, d ≤ lastD x
theorem lim_le : ∀ (m : List THullSection) (l : Int), limS m l ≤ l ∧ ∀ x ∈ m, limS m l ≤ lastD x
  | [], l => ⟨Int.le_refl l, by simp⟩
  | x :: m, l => by
    have h := lim_le m (minmax false l (lastD x))
    have e : minmax false l (lastD x) ≤ l ∧ minmax false l (lastD x) ≤ lastD x := by
      simp only [minmax, Bool.false_eq_true, if_false]; split <;> omega
    rw [limS]
    refine ⟨by omega, fun y hy => ?_⟩
    rcases List.mem_cons.1 hy with rfl | hy
    · omega
    · exact h.2 y hy
theorem lim_nonneg : ∀ (m : List THullSection) (l : Int), (∀ x ∈ m, Sec x) → 0 ≤ l → 0 ≤ limS m l
  | [], l, _, h => h
  | x :: m, l, hx, h => by
    have b := (hx x (by simp)).cv.bounds (show x.Curve.length - 1 < x.Curve.length by have := (hx x (by simp)).cv.two; omega)
    rw [limS]
    refine lim_nonneg m _ (fun y hy => hx y (by simp [hy])) ?_
    simp only [minmax, Bool.false_eq_true, if_false]
    have : 0 ≤ lastD x := b.1
    split <;> omega
theorem fits_of {m : List THullSection} {l d : Int} (h0 : 0 ≤ d) (h : d ≤ limS m l) : fits m d := ⟨h0, fun x hx => by have := (lim_le m l).2 x hx; omega⟩
theorem vol_mono : ∀ {m : List THullSection} {d d' : Int}, (∀ x ∈ m, Sec x) → 0 ≤ d → d ≤ d' → fits m d' → volS m d ≤ volS m d'
  | [], _, _, _, _, _, _ => Int.le_refl 0
  | x :: m, d, d', hx, h0, hd, hf => by
    have h1 := cv_mono (hx x (by simp)).cv h0 hd (hf.2 x (by simp))
    have h2 := vol_mono (m := m) (fun y hy => hx y (by simp [hy])) h0 hd ⟨hf.1, fun y hy => hf.2 y (by simp [hy])⟩
    rw [volS, volS]; omega
theorem zvol_loop (s : Thull_ship) (hl : s.Hull.Sections.length ≤ 10) {d : Int} : ∀ (m : List THullSection) (k : Nat) (v : Int), s.Hull.Sections.drop k = m → (∀ x ∈ m, Sec x) → fits m d → 0 ≤ v → v ≤ 100000 * k → loopC (L_hull_ship_volume_1 d s).step (v, (k : Int)) = some (v + volS m d)
  | [], k, v, h, _, _, _, _ => by
    have := drop_nil h
    rw [loopC_eq]
    simp [L_hull_ship_volume_1, volS, show ¬ k < s.Hull.Sections.length by omega]
  | x :: m, k, v, h, hx, hf, h0, h1 => by
    obtain ⟨hk, hg, hd'⟩ := drop_cons h
    have hc := (hx x (by simp)).cv
    have b := cv_bound hc hf.1 (hf.2 x (by simp))
    have e : (L_hull_ship_volume_1 d s).step (v, (k : Int)) = some (.inl (v + cvAt x.Curve d, ((k + 1 : Nat) : Int))) := by
      simp only [L_hull_ship_volume_1, Int.ofNat_lt, hk, decide_true, cond_true, idx?_nat hk, hg, Option.bind_some, zcurveAt_eq hc hf.1 (hf.2 x (by simp))]
      rw [wr_nat (by omega), wr_in (by omega) (by omega)]
    rw [loopC_eq, e]
    simp only
    rw [zvol_loop s hl m (k + 1) _ hd' (fun y hy => hx y (by simp [hy])) ⟨hf.1, fun y hy => hf.2 y (by simp [hy])⟩ (by omega) (by omega), volS, Int.add_assoc]
theorem zvolume_eq {s : Thull_ship} (hl : s.Hull.Sections.length ≤ 10) {d : Int} (hx : ∀ x ∈ s.Hull.Sections, Sec x) (hf : fits s.Hull.Sections d) : F_hull_ship_volume (s, d) = some (volS s.Hull.Sections d) := by
  simp only [F_hull_ship_volume]
  rw [show ((0 : Int), (0 : Int)) = (0, ((0 : Nat) : Int)) from rfl, zvol_loop s hl s.Hull.Sections 0 0 rfl hx hf (by omega) (by omega), Int.zero_add]
  rfl
theorem rvol_loop (s : THull) (hl : s.Sections.length ≤ 10) {d : Int} : ∀ (m : List THullSection) (k : Nat) (v : Int), s.Sections.drop k = m → (∀ x ∈ m, Sec x) → fits m d → 0 ≤ v → v ≤ 100000 * k → loopC (L_thalwegref02_Volume_2 d s).step (v, (k : Int)) = some (v + volS m d)
  | [], k, v, h, _, _, _, _ => by
    have := drop_nil h
    rw [loopC_eq]
    simp [L_thalwegref02_Volume_2, volS, show ¬ k < s.Sections.length by omega]
  | x :: m, k, v, h, hx, hf, h0, h1 => by
    obtain ⟨hk, hg, hd'⟩ := drop_cons h
    have hc := (hx x (by simp)).cv
    have hfx := hf.2 x (by simp)
    have b := cv_bound hc hf.1 hfx
    have sg := seg_of hc hf.1 hfx
    have hlt := sg.lt
    have hu := hc.up _ hlt
    have h20 := hc.most
    have b1 := hc.bounds (show idxC x.Curve d < x.Curve.length by omega)
    have b2 := hc.bounds hlt
    have e : (L_thalwegref02_Volume_2 d s).step (v, (k : Int)) = some (.inl (v + cvAt x.Curve d, ((k + 1 : Nat) : Int))) := by
      simp only [L_thalwegref02_Volume_2, Int.ofNat_lt, hk, decide_true, cond_true, idx?_nat hk, hg, Option.bind_some, rcurve_eq hc hf.1 hfx x rfl]
      rw [show wr (((idxC x.Curve d + 1 : Nat) : Int) - 1) = ((idxC x.Curve d : Nat) : Int) by rw [wr_in (by omega) (by omega)]; omega, idx?_nat (show idxC x.Curve d < x.Curve.length by omega), idx?_nat hlt]
      simp only [Option.bind_some, rowD_get (show idxC x.Curve d < x.Curve.length by omega), rowD_get hlt]
      rw [nz_of (show wr ((rowD x.Curve (idxC x.Curve d + 1)).Draft - (rowD x.Curve (idxC x.Curve d)).Draft) ≠ 0 by rw [wr_in (by omega) (by omega)]; omega), Int.mul_comm (wr (d - (rowD x.Curve (idxC x.Curve d)).Draft)), val_wr hc sg, wr_nat (by omega)]
      simp only [Option.bind_some]
      rw [show valC x.Curve (idxC x.Curve d) d = cvAt x.Curve d from rfl, wr_in (by omega) (by omega)]
    rw [loopC_eq, e]
    simp only
    rw [rvol_loop s hl m (k + 1) _ hd' (fun y hy => hx y (by simp [hy])) ⟨hf.1, fun y hy => hf.2 y (by simp [hy])⟩ (by omega) (by omega), volS, Int.add_assoc]
theorem rVolume_eq {s : THull} (hl : s.Sections.length ≤ 10) {d : Int} (hx : ∀ x ∈ s.Sections, Sec x) (hf : fits s.Sections d) : F_thalwegref02_Volume (s, d) = some (volS s.Sections d) := by
  simp only [F_thalwegref02_Volume]
  rw [show ((0 : Int), (0 : Int)) = (0, ((0 : Nat) : Int)) from rfl, rvol_loop s hl s.Sections 0 0 rfl hx hf (by omega) (by omega), Int.zero_add]
  rfl
theorem rlim_loop (s : THull) (hl : s.Sections.length ≤ 10) : ∀ (m : List THullSection) (k : Nat) (v : Int), s.Sections.drop k = m → (∀ x ∈ m, Sec x) → loopC (L_thalwegref02_Limit_1 s).step (v, (k : Int)) = some (limS m v)
  | [], k, v, h, _ => by
    have := drop_nil h
    rw [loopC_eq]
    simp [L_thalwegref02_Limit_1, limS, show ¬ k < s.Sections.length by omega]
  | x :: m, k, v, h, hx => by
    obtain ⟨hk, hg, hd'⟩ := drop_cons h
    have hc := (hx x (by simp)).cv
    have h2 := hc.two
    have h20 := hc.most
    have e : (L_thalwegref02_Limit_1 s).step (v, (k : Int)) = some (.inl (minmax false v (lastD x), ((k + 1 : Nat) : Int))) := by
      simp only [L_thalwegref02_Limit_1, Int.ofNat_lt, hk, decide_true, cond_true, idx?_nat hk, hg, Option.bind_some]
      rw [show wr (((x.Curve.length : Nat) : Int) - 1) = ((x.Curve.length - 1 : Nat) : Int) by rw [wr_in (by omega) (by omega)]; omega, idx?_nat (show x.Curve.length - 1 < x.Curve.length by omega)]
      simp only [Option.bind_some, rowD_get (show x.Curve.length - 1 < x.Curve.length by omega)]
      rw [wr_nat (by omega)]
      rfl
    rw [loopC_eq, e]
    simp only
    rw [rlim_loop s hl m (k + 1) _ hd' (fun y hy => hx y (by simp [hy])), limS]
theorem rLimit_eq {s : THull} (hl : s.Sections.length ≤ 10) (hx : ∀ x ∈ s.Sections, Sec x) : F_thalwegref02_Limit s = some (limS s.Sections 1000) := by
  simp only [F_thalwegref02_Limit]
  rw [show ((1000 : Int), (0 : Int)) = (1000, ((0 : Nat) : Int)) from rfl, rlim_loop s hl s.Sections 0 1000 rfl hx]
  rfl

/-! sort.Search -/
theorem mid_eq {lo hi : Nat} (h : lo ≤ hi) (hh : hi ≤ 1000000) : wr (Int.fdiv (IntKind.wrap .u64 (wr ((lo : Int) + (hi : Int)))) 2) = (((lo + hi) / 2 : Nat) : Int) := by
  rw [wr_in (n := (lo : Int) + (hi : Int)) (by omega) (by omega)]
  have e : IntKind.wrap .u64 ((lo : Int) + (hi : Int)) = ((lo + hi : Nat) : Int) := by
    simp [IntKind.wrap, IntKind.bits, IntKind.signed]; omega
  rw [e, show Int.fdiv ((lo + hi : Nat) : Int) 2 = (((lo + hi) / 2 : Nat) : Int) by rw [Int.fdiv_eq_ediv_of_nonneg _ (by omega)]; omega, wr_in (by omega) (by omega)]
theorem search_loop {n : Nat} (hn : n ≤ 100000) (q : Nat → Bool) (p : Int → Option Bool) (g : FuncId) (caps : List V) (hp : ∀ k : Nat, k < n → p (k : Int) = some (q k)) (hm : ∀ j k, j ≤ k → k < n → q j = true → q k = true) : ∀ (d lo hi : Nat), hi - lo ≤ d → lo ≤ hi → hi ≤ n → (∀ j, j < lo → q j = false) → (hi < n → q hi = true) →
    ∃ r : Nat, r ≤ n ∧ loopC (L_sort_Search_1 p g caps).step ((lo : Int), (hi : Int)) = some (r : Int) ∧ (∀ j, j < r → q j = false) ∧ (r < n → q r = true)
  | d, lo, hi, hd, hlh, hhn, hlo, hhi => by
    by_cases c : lo < hi
    · have hmid : (lo + hi) / 2 < n := by omega
      have e : (L_sort_Search_1 p g caps).step ((lo : Int), (hi : Int)) = some (.inl (if q ((lo + hi) / 2) then ((lo : Int), (((lo + hi) / 2 : Nat) : Int)) else ((((lo + hi) / 2 + 1 : Nat) : Int), (hi : Int)))) := by
        simp only [L_sort_Search_1, Int.ofNat_lt, c, decide_true, cond_true]
        rw [mid_eq hlh (by omega), hp _ hmid]
        simp only [Option.bind_some]
        rw [wr_nat (by omega)]
        cases q ((lo + hi) / 2) <;> rfl
      cases d with
      | zero => omega
      | succ d =>
        rw [loopC_eq, e]
        simp only
        cases hq : q ((lo + hi) / 2) with
        | true =>
          simp only [if_true]
          exact search_loop hn q p g caps hp hm d lo ((lo + hi) / 2) (by omega) (by omega) (by omega) hlo (fun _ => hq)
        | false =>
          simp only [Bool.false_eq_true, if_false]
          refine search_loop hn q p g caps hp hm d ((lo + hi) / 2 + 1) hi (by omega) (by omega) hhn (fun j hj => ?_) hhi
          cases hj' : q j with
          | false => rfl
          | true => rw [hm j ((lo + hi) / 2) (by omega) hmid hj'] at hq; cases hq
    · obtain rfl : lo = hi := by omega
      refine ⟨lo, hhn, ?_, hlo, hhi⟩
      rw [loopC_eq]
      simp [L_sort_Search_1]
theorem search_eq {n : Nat} (hn : n ≤ 100000) (q : Nat → Bool) (p : Int → Option Bool) (g : FuncId) (caps : List V) (hp : ∀ k : Nat, k < n → p (k : Int) = some (q k)) (hm : ∀ j k, j ≤ k → k < n → q j = true → q k = true) :
    ∃ r : Nat, r ≤ n ∧ F_sort_Search ((n : Int), p, g, caps) = some (r : Int) ∧ (∀ j, j < r → q j = false) ∧ (r < n → q r = true) := by
  obtain ⟨r, h1, h2, h3, h4⟩ := search_loop hn q p g caps hp hm n 0 n (by omega) (by omega) (by omega) (fun j hj => by omega) (fun h => by omega)
  refine ⟨r, h1, ?_, h3, h4⟩
  simp only [F_sort_Search]
  rw [show ((0 : Int), ((n : Nat) : Int)) = (((0 : Nat) : Int), (n : Int)) from rfl, h2]
  rfl
end Go.Ev
/- Chapter 2: loads, and how deep a hull lies. -/
set_option linter.unusedVariables false
set_option linter.unusedSimpArgs false
namespace Go.Ev
set_option maxHeartbeats 1000000

/-- Less is needed of what is denser. -/
theorem ceil_mono {a c d : Int} (ha : 0 ≤ a) (hd : 0 < d) (hc : d ≤ c) : -((-a) / c) ≤ -((-a) / d) := by
  have h1 : (-a) / d * d ≤ -a := Int.ediv_mul_le _ (by omega)
  have h2 : (-a) / d ≤ 0 := by
    rcases Int.lt_or_le 0 ((-a) / d) with h | h
    · have := Int.mul_pos h hd; omega
    · exact h
  have h3 : (-a) / d ≤ (-a) / c := by
    refine (Int.le_ediv_iff_mul_le (by omega)).2 ?_
    have := Int.mul_le_mul_of_nonpos_left h2 hc
    omega
  omega

/-! loads -/
abbrev HL (h : THull) : List (THullHold × Int) := holdsS h.Sections 0
def sumL : List Int → Int
  | [] => 0
  | n :: l => n + sumL l
def momL (lot L : Int) : List Int → List (THullHold × Int) → Int
  | n :: l, p :: m => n * lot * (2 * p.2 - L) + momL lot L l m
  | _, _ => 0
theorem holdsS_mem : ∀ {m : List THullSection} {t : Int} {p : THullHold × Int}, (∀ x ∈ m, Sec x) → p ∈ holdsS m t → 0 ≤ p.1.Lots ∧ p.1.Lots ≤ 20 ∧ t ≤ p.2 ∧ p.2 ≤ t + lenS m
  | [], _, _, _, h => by cases h
  | x :: m, t, p, hx, h => by
    have hn := lenS_nonneg (m := m) fun y hy => hx y (by simp [hy])
    have hs := hx x (by simp)
    have hl := hs.len
    rw [lenS]
    rcases List.mem_append.1 h with h | h
    · obtain ⟨y, hy, rfl⟩ := List.mem_map.1 h
      have := hs.holds y hy
      simp only
      omega
    · have := holdsS_mem (m := m) (t := t + x.Length) (fun y hy => hx y (by simp [hy])) h
      omega
theorem HL_len {h : THull} (hh : Hl h) : (HL h).length ≤ 4 := by rw [holdsS_length]; exact hh.cnt
theorem HL_mem {h : THull} (hh : Hl h) {p : THullHold × Int} (hp : p ∈ HL h) : 0 ≤ p.1.Lots ∧ p.1.Lots ≤ 20 ∧ 0 ≤ p.2 ∧ p.2 ≤ lenS h.Sections := by
  have := holdsS_mem hh.sec hp
  omega
def loadAll (h : THull) (l : List Int) : Bool := (l.zip (HL h)).all fun p => inB p.1 0 p.2.1.Lots
theorem checkLoad_eq {h : THull} (hh : Hl h) (l : List Int) : F_hull_ship_checkLoad (shipOf h, l) = some (if l.length = (HL h).length then (if loadAll h l then 0 else 3) else 4) := by
  have h4 := HL_len hh
  simp only [F_hull_ship_checkLoad, shipOf, storS, List.length_map]
  by_cases c : l.length = (HL h).length
  · rw [if_pos c, show (((l.length : Nat) : Int) != (((HL h).length : Nat) : Int)) = false by rw [c]; simp]
    simp only [cond_false]
    have hzl : (l.zip (HL h)).length = l.length := by rw [List.length_zip]; omega
    rw [loop_list0 (l.zip (HL h)) (fun p => inB p.1 0 p.2.1.Lots) (e := .inl ()) (f := .inr 3)]
    · rw [show loadAll h l = (l.zip (HL h)).all fun p => inB p.1 0 p.2.1.Lots from rfl]
      cases (l.zip (HL h)).all fun p => inB p.1 0 p.2.1.Lots <;> rfl
    · intro k hk
      rw [hzl] at hk
      have hk2 : k < (HL h).length := by omega
      simp only [L_hull_ship_checkLoad_1, Int.ofNat_lt, hk, decide_true, cond_true, idx?_nat hk, Option.bind_some]
      rw [idx?_nat (show k < ((HL h).map fun p => (⟨p.1, 2 * p.2 - lenS h.Sections⟩ : Thull_hold)).length by rw [List.length_map]; exact hk2)]
      simp only [Option.bind_some, List.getElem_map, within1, List.getElem_zip]
      rw [wr_nat (by omega)]
      cases inB l[k] 0 (HL h)[k].1.Lots <;> rfl
    · rw [hzl]; simp [L_hull_ship_checkLoad_1]
  · rw [if_neg c, show (((l.length : Nat) : Int) != (((HL h).length : Nat) : Int)) = true by rw [bne_iff_ne]; omega]
    rfl
def loadE (h : THull) (l : List Int) (d : TBounds) : Int := if l.length = (HL h).length then (if loadAll h l then (if vB d 900 1100 then 0 else 2) else 3) else 4
theorem rLoad_eq {h : THull} (hs : small h.Sections) (ho : hullOk h = true) (l : List Int) (d : TBounds) : F_thalwegref02_Load (h, l, d) = some (loadE h l d) := by
  have hh := hl_of hs ho
  have h4 := HL_len hh
  simp only [F_thalwegref02_Load, refHull_eq hs, ho, Option.bind_some, Bool.not_true, cond_false, rholds_eq hs hh.sec, refH, List.length_map, loadE]
  by_cases c : l.length = (HL h).length
  · rw [if_pos c, show (((l.length : Nat) : Int) != (((HL h).length : Nat) : Int)) = false by rw [c]; simp]
    simp only [cond_false]
    have hzl : (l.zip (HL h)).length = l.length := by rw [List.length_zip]; omega
    rw [loop_list0 (l.zip (HL h)) (fun p => inB p.1 0 p.2.1.Lots) (e := .inl ()) (f := .inr 3)]
    · rw [show loadAll h l = (l.zip (HL h)).all fun p => inB p.1 0 p.2.1.Lots from rfl]
      cases (l.zip (HL h)).all fun p => inB p.1 0 p.2.1.Lots with
      | false => rfl
      | true =>
        simp only [if_true, Option.bind_some, F_thalwegref02_Density, rvalid_eq]
        cases vB d 900 1100 <;> rfl
    · intro k hk
      rw [hzl] at hk
      have hk2 : k < (HL h).length := by omega
      simp only [L_thalwegref02_Load_1, Int.ofNat_lt, hk, decide_true, cond_true, idx?_nat hk, Option.bind_some]
      rw [idx?_nat (show k < ((HL h).map fun p => (⟨p.2, p.1.Lots⟩ : THullHold)).length by rw [List.length_map]; exact hk2)]
      simp only [Option.bind_some, List.getElem_map, In_eq, List.getElem_zip]
      rw [wr_nat (by omega)]
      cases inB l[k] 0 (HL h)[k].1.Lots <;> rfl
    · rw [hzl]; simp [L_thalwegref02_Load_1]
  · rw [if_neg c, show (((l.length : Nat) : Int) != (((HL h).length : Nat) : Int)) = true by rw [bne_iff_ne]; omega]
    rfl

/-- A load that the holds can take. -/
structure Ld (h : THull) (l : List Int) : Prop where
  hull : Hl h
  len : l.length = (HL h).length
  each : ∀ n ∈ l, 0 ≤ n ∧ n ≤ 20
theorem ld_of {h : THull} (hh : Hl h) {l : List Int} (c : l.length = (HL h).length) (ha : loadAll h l = true) : Ld h l := by
  refine ⟨hh, c, fun n hn => ?_⟩
  obtain ⟨k, hk, rfl⟩ := List.getElem_of_mem hn
  have hz : k < (l.zip (HL h)).length := by rw [List.length_zip]; omega
  have := List.all_eq_true.1 ha _ (List.getElem_mem hz)
  rw [List.getElem_zip] at this
  simp only [inB_iff] at this
  have hm := HL_mem hh (List.getElem_mem (show k < (HL h).length by omega))
  omega
theorem prod_bound {n lot a : Int} (hn : 0 ≤ n ∧ n ≤ 20) (hl : 1 ≤ lot ∧ lot ≤ 1000) (ha : a.natAbs ≤ 1000) : (n * lot).natAbs ≤ 20000 ∧ 0 ≤ n * lot ∧ (n * lot * a).natAbs ≤ 20000000 := by
  have h1 : (n * lot).natAbs ≤ 20 * 1000 := mulB (by omega) (by omega)
  have h2 : (n * lot * a).natAbs ≤ 20000 * 1000 := mulB (by omega) ha
  have h3 : 0 ≤ n * lot := Int.mul_nonneg hn.1 (by omega)
  omega
theorem loaded_loop {h : THull} (hh : Hl h) (l : List Int) (hl : l.length ≤ 4) : ∀ (ns : List Int) (ps : List (THullHold × Int)) (k : Nat) (v w : Int), l.drop k = ns → (HL h).drop k = ps → ns.length = ps.length → (∀ n ∈ ns, 0 ≤ n ∧ n ≤ 20) → 0 ≤ v → v ≤ 20 * k → w.natAbs ≤ 1000000000 + 20000000 * k →
    loopC (L_hull_ship_loaded_1 l (shipOf h)).step (v, w, (k : Int)) = some (v + sumL ns, w + momL h.Lot (lenS h.Sections) ns ps)
  | [], ps, k, v, w, hd, _, _, _, _, _, _ => by
    have := drop_nil hd
    rw [loopC_eq]
    simp [L_hull_ship_loaded_1, sumL, momL, show ¬ k < l.length by omega]
  | n :: ns, [], k, v, w, _, _, hln, _, _, _, _ => by simp at hln
  | n :: ns, p :: ps, k, v, w, hd, hp, hln, hn, h0, h1, h2 => by
    obtain ⟨hk, hg, hd'⟩ := drop_cons hd
    obtain ⟨hk2, hg2, hp'⟩ := drop_cons hp
    have hb := hn n (by simp)
    have hlot := hh.lot
    have hm := HL_mem hh (List.getElem_mem hk2)
    have hL := hh.len
    have hL0 := lenS_nonneg hh.sec
    rw [hg2] at hm
    obtain ⟨b1, b2, b3⟩ := prod_bound hb hlot (show (2 * p.2 - lenS h.Sections).natAbs ≤ 1000 by omega)
    have e : (L_hull_ship_loaded_1 l (shipOf h)).step (v, w, (k : Int)) = some (.inl (v + n, w + n * h.Lot * (2 * p.2 - lenS h.Sections), ((k + 1 : Nat) : Int))) := by
      simp only [L_hull_ship_loaded_1, shipOf, storS, Int.ofNat_lt, hk, decide_true, cond_true, idx?_nat hk, hg, Option.bind_some]
      rw [idx?_nat (show k < ((HL h).map fun p => (⟨p.1, 2 * p.2 - lenS h.Sections⟩ : Thull_hold)).length by rw [List.length_map]; exact hk2)]
      simp only [Option.bind_some, List.getElem_map, hg2]
      rw [wr_nat (by omega), wr_in (n := v + n) (by omega) (by omega), wr_in (n := n * h.Lot) (by omega) (by omega), wr_in (n := n * h.Lot * (2 * p.2 - lenS h.Sections)) (by omega) (by omega), wr_in (by omega) (by omega)]
    rw [loopC_eq, e]
    simp only
    rw [loaded_loop hh l hl ns ps (k + 1) _ _ hd' hp' (by simpa using hln) (fun y hy => hn y (by simp [hy])) (by omega) (by omega) (by omega)]
    simp only [sumL, momL, Int.add_assoc]
theorem momS_bound {L : Int} (hL : 0 ≤ L ∧ L ≤ 1000) : ∀ (m : List THullSection) (t : Int), (∀ x ∈ m, Sec x) → 0 ≤ t → t + 100 * m.length ≤ 1000 → (momS L m t).natAbs ≤ 40000000 * m.length
  | [], _, _, _, _ => by simp [momS]
  | x :: m, t, hx, h0, h1 => by
    have hs := hx x (by simp)
    have hl := hs.len
    have hli := hs.light
    simp only [List.length_cons] at h1 ⊢
    have hp : (x.Light * (2 * t + x.Length - L)).natAbs ≤ 10000 * 4000 := mulB (by omega) (by omega)
    have := momS_bound hL m (t + x.Length) (fun y hy => hx y (by simp [hy])) (by omega) (by omega)
    rw [momS]
    omega
/-- The moment of a loaded hull. -/
def momOf (h : THull) (l : List Int) : Int := momS (lenS h.Sections) h.Sections 0 + momL h.Lot (lenS h.Sections) l (HL h)
theorem mom0_bound {h : THull} (hh : Hl h) : (momS (lenS h.Sections) h.Sections 0).natAbs ≤ 240000000 := by
  have := momS_bound (L := lenS h.Sections) ⟨lenS_nonneg hh.sec, by have := hh.len; omega⟩ h.Sections 0 hh.sec (by omega) (by have := hh.one; omega)
  have := hh.one
  omega
theorem loaded_eq {h : THull} {l : List Int} (hl : Ld h l) : F_hull_ship_loaded (shipOf h, l) = some (sumL l, momOf h l) := by
  have hh := hl.hull
  have h4 := HL_len hh
  have hm := mom0_bound hh
  simp only [F_hull_ship_loaded]
  rw [show ((0 : Int), (shipOf h).moment_, (0 : Int)) = (0, momS (lenS h.Sections) h.Sections 0, ((0 : Nat) : Int)) from rfl, loaded_loop hh l (by have := hl.len; omega) l (HL h) 0 0 _ rfl rfl hl.len hl.each (by omega) (by omega) (by omega), Int.zero_add]
  rfl
theorem momL_bound {lot L : Int} (hlot : 1 ≤ lot ∧ lot ≤ 1000) : ∀ (ns : List Int) (ps : List (THullHold × Int)), (∀ n ∈ ns, 0 ≤ n ∧ n ≤ 20) → (∀ p ∈ ps, (2 * p.2 - L).natAbs ≤ 1000) → (momL lot L ns ps).natAbs ≤ 20000000 * ns.length
  | [], ps, _, _ => by simp [momL]
  | n :: ns, [], _, _ => by simp [momL]
  | n :: ns, p :: ps, hn, hp => by
    obtain ⟨_, _, b3⟩ := prod_bound (hn n (by simp)) hlot (hp p (by simp))
    have := momL_bound (L := L) hlot ns ps (fun y hy => hn y (by simp [hy])) (fun y hy => hp y (by simp [hy]))
    rw [momL, List.length_cons]
    omega
theorem momOf_bound {h : THull} {l : List Int} (hl : Ld h l) : (momOf h l).natAbs ≤ 400000000 := by
  have hh := hl.hull
  have h4 := HL_len hh
  have hm := mom0_bound hh
  have hL := hh.len
  have hL0 := lenS_nonneg hh.sec
  have := momL_bound (L := lenS h.Sections) hh.lot l (HL h) hl.each (fun p hp => by have := HL_mem hh hp; omega)
  have := hl.len
  unfold momOf
  omega

/-! the reference -/
theorem rmass1_loop (h : THull) (a1 : List Int) (hl : h.Sections.length ≤ 10) : ∀ (m : List THullSection) (k : Nat) (s : Int), h.Sections.drop k = m → (∀ x ∈ m, Sec x) → 0 ≤ s → s ≤ 10000 * k → loopC (L_thalwegref02_Mass_1 a1 h).step (s, (k : Int)) = some (s + lightS m)
  | [], k, s, hd, _, _, _ => by
    have := drop_nil hd
    rw [loopC_eq]
    simp [L_thalwegref02_Mass_1, lightS, show ¬ k < h.Sections.length by omega]
  | x :: m, k, s, hd, hx, h0, h1 => by
    obtain ⟨hk, hg, hd'⟩ := drop_cons hd
    have := (hx x (by simp)).light
    have e : (L_thalwegref02_Mass_1 a1 h).step (s, (k : Int)) = some (.inl (s + x.Light, ((k + 1 : Nat) : Int))) := by
      simp only [L_thalwegref02_Mass_1, Int.ofNat_lt, hk, decide_true, cond_true, idx?_nat hk, hg, Option.bind_some]
      rw [wr_nat (by omega), wr_in (by omega) (by omega)]
    rw [loopC_eq, e]
    simp only
    rw [rmass1_loop h a1 hl m (k + 1) _ hd' (fun y hy => hx y (by simp [hy])) (by omega) (by omega), lightS, Int.add_assoc]
theorem rtrim_loop (h : THull) (y1 : Int) (hl : h.Sections.length ≤ 10) : ∀ (m : List THullSection) (k : Nat) (s : Int), h.Sections.drop k = m → (∀ x ∈ m, Sec x) → 0 ≤ s → s ≤ 100000 * k → loopC (L_thalwegref02_Trim_1 y1 h).step (s, (k : Int)) = some (s + trimS m)
  | [], k, s, hd, _, _, _ => by
    have := drop_nil hd
    rw [loopC_eq]
    simp [L_thalwegref02_Trim_1, trimS, show ¬ k < h.Sections.length by omega]
  | x :: m, k, s, hd, hx, h0, h1 => by
    obtain ⟨hk, hg, hd'⟩ := drop_cons hd
    have := (hx x (by simp)).trim
    have e : (L_thalwegref02_Trim_1 y1 h).step (s, (k : Int)) = some (.inl (s + x.Trim, ((k + 1 : Nat) : Int))) := by
      simp only [L_thalwegref02_Trim_1, Int.ofNat_lt, hk, decide_true, cond_true, idx?_nat hk, hg, Option.bind_some]
      rw [wr_nat (by omega), wr_in (by omega) (by omega)]
    rw [loopC_eq, e]
    simp only
    rw [rtrim_loop h y1 hl m (k + 1) _ hd' (fun y hy => hx y (by simp [hy])) (by omega) (by omega), trimS, Int.add_assoc]
theorem rmass2_loop (h : THull) (hlot : 1 ≤ h.Lot ∧ h.Lot ≤ 1000) (l : List Int) (hl : l.length ≤ 4) : ∀ (ns : List Int) (k : Nat) (s : Int), l.drop k = ns → (∀ n ∈ ns, 0 ≤ n ∧ n ≤ 20) → 0 ≤ s → s ≤ 100000 + 20000 * k → loopC (L_thalwegref02_Mass_2 l h).step (s, (k : Int)) = some (s + sumL ns * h.Lot)
  | [], k, s, hd, _, _, _ => by
    have := drop_nil hd
    rw [loopC_eq]
    simp [L_thalwegref02_Mass_2, sumL, show ¬ k < l.length by omega]
  | n :: ns, k, s, hd, hn, h0, h1 => by
    obtain ⟨hk, hg, hd'⟩ := drop_cons hd
    obtain ⟨b1, b2, _⟩ := prod_bound (hn n (by simp)) hlot (show (0 : Int).natAbs ≤ 1000 by simp)
    have e : (L_thalwegref02_Mass_2 l h).step (s, (k : Int)) = some (.inl (s + n * h.Lot, ((k + 1 : Nat) : Int))) := by
      simp only [L_thalwegref02_Mass_2, Int.ofNat_lt, hk, decide_true, cond_true, idx?_nat hk, hg, Option.bind_some]
      rw [wr_nat (by omega), wr_in (n := n * h.Lot) (by omega) (by omega), wr_in (by omega) (by omega)]
    rw [loopC_eq, e]
    simp only
    rw [rmass2_loop h hlot l hl ns (k + 1) _ hd' (fun y hy => hn y (by simp [hy])) (by omega) (by omega), sumL, Int.add_mul, Int.add_assoc]
theorem sums_bound : ∀ {m : List THullSection}, (∀ x ∈ m, Sec x) → 0 ≤ lightS m ∧ lightS m ≤ 10000 * m.length ∧ (m.length : Int) ≤ trimS m ∧ trimS m ≤ 100000 * m.length
  | [], _ => by simp [lightS, trimS]
  | x :: m, h => by
    have h1 := (h x (by simp)).light
    have h2 := (h x (by simp)).trim
    have h3 := sums_bound (m := m) fun y hy => h y (by simp [hy])
    rw [lightS, trimS, List.length_cons]; omega
theorem sumL_bound : ∀ {ns : List Int}, (∀ n ∈ ns, 0 ≤ n ∧ n ≤ 20) → 0 ≤ sumL ns ∧ sumL ns ≤ 20 * ns.length
  | [], _ => by simp [sumL]
  | n :: ns, h => by
    have h1 := h n (by simp)
    have h2 := sumL_bound (ns := ns) fun y hy => h y (by simp [hy])
    rw [sumL, List.length_cons]; omega
/-- The mass of a loaded hull. -/
def massOf (h : THull) (l : List Int) : Int := lightS h.Sections + sumL l * h.Lot
theorem mass_bound {h : THull} {l : List Int} (hl : Ld h l) : 0 ≤ massOf h l ∧ massOf h l ≤ 140000 ∧ 0 ≤ sumL l * h.Lot ∧ sumL l * h.Lot ≤ 80000 ∧ lightS h.Sections ≤ 60000 ∧ 0 ≤ lightS h.Sections := by
  have hh := hl.hull
  have h4 := HL_len hh
  have h5 := hl.len
  have h6 := hh.one
  have h7 := sums_bound hh.sec
  have h8 := sumL_bound hl.each
  have h9 : (sumL l * h.Lot).natAbs ≤ 80 * 1000 := mulB (by omega) (by have := hh.lot; omega)
  have h10 : 0 ≤ sumL l * h.Lot := Int.mul_nonneg h8.1 (by have := hh.lot; omega)
  unfold massOf
  omega
theorem rMass_eq {h : THull} {l : List Int} (hl : Ld h l) : F_thalwegref02_Mass (h, l) = some (massOf h l) := by
  have hh := hl.hull
  have hb := mass_bound hl
  have h4 := HL_len hh
  simp only [F_thalwegref02_Mass]
  rw [show ((0 : Int), (0 : Int)) = (0, ((0 : Nat) : Int)) from rfl, rmass1_loop h l hh.small.1 h.Sections 0 0 rfl hh.sec (by omega) (by omega), Int.zero_add]
  simp only [Option.bind_some]
  rw [show (lightS h.Sections, (0 : Int)) = (lightS h.Sections, ((0 : Nat) : Int)) from rfl, rmass2_loop h hh.lot l (by have := hl.len; omega) l 0 _ rfl hl.each (by omega) (by omega)]
  rfl
theorem rmom1_loop (h : THull) (hs : small h.Sections) (a1 : List Int) (y2 : List THullHold) (L : Int) (hL : 0 ≤ L ∧ L ≤ 1000) : ∀ (m : List THullSection) (k : Nat) (t mo : Int), h.Sections.drop k = m → (∀ x ∈ m, Sec x) → k ≤ 10 → 0 ≤ t → t ≤ 100 * k → mo.natAbs ≤ 100000000 * k →
    loopC (L_thalwegref02_Moment_1 a1 L y2 h).step (mo, t, (k : Int)) = some (mo + momS L m t)
  | [], k, t, mo, hd, _, _, _, _, _ => by
    have := drop_nil hd
    rw [loopC_eq]
    simp [L_thalwegref02_Moment_1, momS, show ¬ k < h.Sections.length by omega]
  | x :: m, k, t, mo, hd, hx, hk10, h0, h1, h2 => by
    obtain ⟨hk, hg, hd'⟩ := drop_cons hd
    have hsx := hx x (by simp)
    have hl := hsx.len
    have hli := hsx.light
    have h10 := hs.1
    have hp : (x.Light * (2 * t + x.Length - L)).natAbs ≤ 10000 * 4000 := mulB (by omega) (by omega)
    have e : (L_thalwegref02_Moment_1 a1 L y2 h).step (mo, t, (k : Int)) = some (.inl (mo + x.Light * (2 * t + x.Length - L), t + x.Length, ((k + 1 : Nat) : Int))) := by
      simp only [L_thalwegref02_Moment_1, Int.ofNat_lt, hk, decide_true, cond_true, idx?_nat hk, hg, Option.bind_some]
      rw [wr_nat (by omega), wr_in (n := 2 * t) (by omega) (by omega), wr_in (n := 2 * t + x.Length) (by omega) (by omega), wr_in (n := 2 * t + x.Length - L) (by omega) (by omega), wr_in (n := x.Light * (2 * t + x.Length - L)) (by omega) (by omega), wr_in (n := mo + x.Light * (2 * t + x.Length - L)) (by omega) (by omega), wr_in (by omega) (by omega)]
    rw [loopC_eq, e]
    simp only
    rw [rmom1_loop h hs a1 y2 L hL m (k + 1) _ _ hd' (fun y hy => hx y (by simp [hy])) (by omega) (by omega) (by omega) (by omega), momS, Int.add_assoc]
theorem rmom2_loop {h : THull} (hh : Hl h) (l : List Int) (hl : l.length ≤ 4) : ∀ (ns : List Int) (ps : List (THullHold × Int)) (k : Nat) (w : Int), l.drop k = ns → (HL h).drop k = ps → ns.length = ps.length → (∀ n ∈ ns, 0 ≤ n ∧ n ≤ 20) → w.natAbs ≤ 1000000000 + 20000000 * k →
    loopC (L_thalwegref02_Moment_2 l (lenS h.Sections) (refH h) h).step (w, (k : Int)) = some (w + momL h.Lot (lenS h.Sections) ns ps)
  | [], ps, k, w, hd, _, _, _, _ => by
    have := drop_nil hd
    rw [loopC_eq]
    simp [L_thalwegref02_Moment_2, momL, show ¬ k < l.length by omega]
  | n :: ns, [], k, w, _, _, hln, _, _ => by simp at hln
  | n :: ns, p :: ps, k, w, hd, hp, hln, hn, h2 => by
    obtain ⟨hk, hg, hd'⟩ := drop_cons hd
    obtain ⟨hk2, hg2, hp'⟩ := drop_cons hp
    have hb := hn n (by simp)
    have hlot := hh.lot
    have hm := HL_mem hh (List.getElem_mem hk2)
    have hL := hh.len
    have hL0 := lenS_nonneg hh.sec
    rw [hg2] at hm
    obtain ⟨b1, b2, b3⟩ := prod_bound hb hlot (show (2 * p.2 - lenS h.Sections).natAbs ≤ 1000 by omega)
    have e : (L_thalwegref02_Moment_2 l (lenS h.Sections) (refH h) h).step (w, (k : Int)) = some (.inl (w + n * h.Lot * (2 * p.2 - lenS h.Sections), ((k + 1 : Nat) : Int))) := by
      simp only [L_thalwegref02_Moment_2, refH, Int.ofNat_lt, hk, decide_true, cond_true, idx?_nat hk, hg, Option.bind_some]
      rw [idx?_nat (show k < ((HL h).map fun p => (⟨p.2, p.1.Lots⟩ : THullHold)).length by rw [List.length_map]; exact hk2)]
      simp only [Option.bind_some, List.getElem_map, hg2]
      rw [wr_nat (by omega), wr_in (n := n * h.Lot) (by omega) (by omega), wr_in (n := 2 * p.2) (by omega) (by omega), wr_in (n := 2 * p.2 - lenS h.Sections) (by omega) (by omega), wr_in (n := n * h.Lot * (2 * p.2 - lenS h.Sections)) (by omega) (by omega), wr_in (by omega) (by omega)]
    rw [loopC_eq, e]
    simp only
    rw [rmom2_loop hh l hl ns ps (k + 1) _ hd' hp' (by simpa using hln) (fun y hy => hn y (by simp [hy])) (by omega), momL, Int.add_assoc]
theorem rMoment_eq {h : THull} {l : List Int} (hl : Ld h l) : F_thalwegref02_Moment (h, l) = some (momOf h l) := by
  have hh := hl.hull
  have h4 := HL_len hh
  have hm := mom0_bound hh
  have hL := hh.len
  have hL0 := lenS_nonneg hh.sec
  simp only [F_thalwegref02_Moment, rlength_eq hh.small.1 hh.sec, rholds_eq hh.small hh.sec, Option.bind_some]
  rw [show ((0 : Int), (0 : Int), (0 : Int)) = (0, 0, ((0 : Nat) : Int)) from rfl, rmom1_loop h hh.small l (refH h) (lenS h.Sections) (by omega) h.Sections 0 0 0 rfl hh.sec (by omega) (by omega) (by omega) (by simp), Int.zero_add]
  simp only [Option.bind_some]
  rw [show (momS (lenS h.Sections) h.Sections 0, (0 : Int)) = (momS (lenS h.Sections) h.Sections 0, ((0 : Nat) : Int)) from rfl, rmom2_loop hh l (by have := hl.len; omega) l (HL h) 0 _ rfl rfl hl.len hl.each (by omega)]
  rfl
/-- By how much the deeper end is deeper. -/
def moreOf (h : THull) (l : List Int) : Int := -((-(minmax true (momOf h l) (0 - momOf h l))) / (4 * trimS h.Sections))
theorem abs_bound {h : THull} {l : List Int} (hl : Ld h l) : 0 ≤ minmax true (momOf h l) (0 - momOf h l) ∧ minmax true (momOf h l) (0 - momOf h l) ≤ 400000000 := by
  have := momOf_bound hl
  simp only [minmax, if_true]
  split <;> omega
theorem trim_pos {h : THull} (hh : Hl h) : 1 ≤ trimS h.Sections ∧ trimS h.Sections ≤ 600000 := by
  have := sums_bound hh.sec
  have := hh.one
  omega
theorem more_bound {h : THull} {l : List Int} (hl : Ld h l) : 0 ≤ moreOf h l ∧ moreOf h l ≤ 400000000 := by
  have h1 := abs_bound hl
  have h2 := trim_pos hl.hull
  have h3 := div_bound (a := -(minmax true (momOf h l) (0 - momOf h l))) (b := 4 * trimS h.Sections) (by omega)
  have h4 : (-(minmax true (momOf h l) (0 - momOf h l))) / (4 * trimS h.Sections) ≤ 0 := by
    have := Int.ediv_le_ediv (c := 4 * trimS h.Sections) (by omega) (show -(minmax true (momOf h l) (0 - momOf h l)) ≤ 0 by omega)
    rwa [Int.zero_ediv] at this
  unfold moreOf
  omega
theorem rTrim_eq {h : THull} {l : List Int} (hl : Ld h l) : F_thalwegref02_Trim (h, l) = some (moreOf h l) := by
  have hh := hl.hull
  have hm := momOf_bound hl
  have ha := abs_bound hl
  have ht := trim_pos hh
  simp only [F_thalwegref02_Trim, rMoment_eq hl, Option.bind_some]
  rw [show ((0 : Int), (0 : Int)) = (0, ((0 : Nat) : Int)) from rfl, rtrim_loop h _ hh.small.1 h.Sections 0 0 rfl hh.sec (by omega) (by omega), Int.zero_add]
  simp only [Option.bind_some]
  rw [wr_in (n := 0 - momOf h l) (by omega) (by omega), wr_in (n := 4 * trimS h.Sections) (by omega) (by omega), Ceil_eq (by omega) (by omega)]
  rfl

/-! the mean draft -/
def needOf (h : THull) (l : List Int) (d : Int) : Int := -((-(massOf h l * 1000)) / d)
theorem mean_both {h : THull} {l : List Int} (hl : Ld h l) {lim : Nat} (hlim : limS h.Sections 1000 = (lim : Int)) {d : Int} (h9 : 900 ≤ d) (h11 : d ≤ 1100) : ∃ r : Nat, r ≤ lim + 1 ∧ F_hull_ship_mean (shipOf h, sumL l, d) = some (r : Int) ∧ F_thalwegref02_Mean (h, l, d) = some (if r ≤ lim then (r : Int) else -1) ∧
    (∀ j : Nat, j < r → volS h.Sections j < needOf h l d) ∧ (r ≤ lim → needOf h l d ≤ volS h.Sections r) := by
  have hh := hl.hull
  have hb := mass_bound hl
  have h10 := hh.small.1
  have hle := (lim_le h.Sections 1000).1
  have hfit : ∀ k : Nat, k ≤ lim → fits h.Sections (k : Int) := fun k hk => fits_of (l := 1000) (by omega) (by omega)
  obtain ⟨r, r1, r2, r3, r4⟩ := search_eq (n := lim + 1) (by omega) (fun k => decide (volS h.Sections (k : Int) ≥ needOf h l d)) (fun q => F_hull_ship_mean_1 (q, shipOf h, needOf h l d)) 96
    [(V.fptr [(V.v (.int .i64 ((shipOf h).Hull.Lot))), (V.sl (recs eTHullSection ((shipOf h).Hull.Sections)) ((shipOf h).Hull.Sections).length), (V.v (.int .i64 ((shipOf h).limit_))), (V.v (.int .i64 ((shipOf h).trim_))), (V.v (.int .i64 ((shipOf h).mass_))), (V.v (.int .i64 ((shipOf h).moment_))), (V.sl (recs eThull_hold ((shipOf h).storage_)) ((shipOf h).storage_).length)]), (V.fptr [(V.v (.int .i64 (needOf h l d)))])]
    (fun k hk => by simp only [F_hull_ship_mean_1, zvolume_eq (s := shipOf h) h10 hh.sec (hfit k (by omega)), Option.bind_some]; rfl)
    (fun j k hjk hk hq => by
      have := vol_mono (m := h.Sections) (d := (j : Int)) (d' := (k : Int)) hh.sec (by omega) (by omega) (hfit k (by omega))
      simp only [decide_eq_true_eq] at hq ⊢
      omega)
  have r3' : ∀ j : Nat, j < r → volS h.Sections j < needOf h l d := fun j hj => by have := r3 j hj; simp only [decide_eq_false_iff_not] at this; omega
  have r4' : r ≤ lim → needOf h l d ≤ volS h.Sections r := fun hr => by have := r4 (by omega); simp only [decide_eq_true_eq] at this; omega
  refine ⟨r, r1, ?_, ?_, r3', r4'⟩
  · simp only [F_hull_ship_mean]
    rw [show (shipOf h).mass_ = lightS h.Sections from rfl, show (shipOf h).Hull.Lot = h.Lot from rfl, show (shipOf h).limit_ = (lim : Int) from hlim, wr_in (n := sumL l * h.Lot) (by omega) (by omega), wr_in (n := lightS h.Sections + sumL l * h.Lot) (by omega) (by omega),
      show lightS h.Sections + sumL l * h.Lot = massOf h l from rfl, wr_in (n := massOf h l * 1000) (by omega) (by omega), Up_eq (by omega) (by omega)]
    simp only [Option.bind_some]
    rw [wr_nat (by omega), show -((-(massOf h l * 1000)) / d) = needOf h l d from rfl]
    have := r2
    rw [show (shipOf h).limit_ = (lim : Int) from hlim, show (shipOf h).mass_ = lightS h.Sections from rfl, show (shipOf h).Hull.Lot = h.Lot from rfl] at this
    rw [this]
    rfl
  · simp only [F_thalwegref02_Mean, rMass_eq hl, Option.bind_some]
    rw [wr_in (n := massOf h l * 1000) (by omega) (by omega), Ceil_eq (by omega) (by omega)]
    simp only [Option.bind_some]
    rw [show -((-(massOf h l * 1000)) / d) = needOf h l d from rfl]
    have hstep : ∀ k : Nat, k < r → (L_thalwegref02_Mean_1 (needOf h l d) h).step (k : Int) = some (.inl ((k + 1 : Nat) : Int)) := by
      intro k hk
      have := r3' k hk
      simp only [L_thalwegref02_Mean_1, rLimit_eq h10 hh.sec, hlim, Option.bind_some]
      rw [show decide (((k : Nat) : Int) ≤ (lim : Int)) = true from decide_eq_true (by omega)]
      simp only [cond_true, rVolume_eq h10 hh.sec (hfit k (by omega)), Option.bind_some]
      rw [show decide (volS h.Sections (k : Int) ≥ needOf h l d) = false from decide_eq_false (by omega), wr_nat (by omega)]
      rfl
    have hloop : loopC (L_thalwegref02_Mean_1 (needOf h l d) h).step 0 = some (if r ≤ lim then .inr (r : Int) else .inl ()) := by
      refine loop_run (E := Unit ⊕ Int) (fun k : Nat => (k : Int)) r hstep ?_
      simp only [L_thalwegref02_Mean_1, rLimit_eq h10 hh.sec, hlim, Option.bind_some]
      by_cases c : r ≤ lim
      · have := r4' c
        rw [if_pos c, show decide (((r : Nat) : Int) ≤ (lim : Int)) = true from decide_eq_true (by omega)]
        simp only [cond_true, rVolume_eq h10 hh.sec (hfit r c), Option.bind_some]
        rw [show decide (volS h.Sections (r : Int) ≥ needOf h l d) = true from decide_eq_true (by omega)]
        rfl
      · rw [if_neg c, show decide (((r : Nat) : Int) ≤ (lim : Int)) = false from decide_eq_false (by omega)]
        rfl
    rw [hloop]
    by_cases c : r ≤ lim
    · rw [if_pos c, if_pos c]; rfl
    · rw [if_neg c, if_neg c]; rfl

theorem compare_eq (m : Int) : F_cmp_Compare_int (m, 0) = some (if m < 0 then -1 else if m > 0 then 1 else 0) := by
  simp only [F_cmp_Compare_int, F_cmp_isNaN_int, Option.bind_some, bne_self_eq_false, cond_false]
  by_cases c1 : m < 0
  · simp [c1]
  · by_cases c2 : m > 0
    · simp [c1, c2]
    · simp [c1, c2]
def noFloat : THullFloat := ⟨⟨0, 0⟩, ⟨0, 0⟩, 0⟩
theorem float_both {h : THull} {l : List Int} (hl : Ld h l) {d : TBounds} (hd : vB d 900 1100 = true) : ∃ z ok, F_thalwegref02_Float (h, l, d) = some (z, ok) ∧ F_hull_ship_float (shipOf h, l, d) = some (bif ok then (z, 0) else (noFloat, 8)) := by
  have hh := hl.hull
  simp only [vB, inB, Bool.and_eq_true, decide_eq_true_eq] at hd
  obtain ⟨lim, hlim⟩ := Int.eq_ofNat_of_zero_le (lim_nonneg h.Sections 1000 hh.sec (by omega))
  have hle := (lim_le h.Sections 1000).1
  obtain ⟨r, r1, r2, r3, r4, r5⟩ := mean_both hl hlim (d := d.High) (by omega) (by omega)
  obtain ⟨s, s1, s2, s3, s4, s5⟩ := mean_both hl hlim (d := d.Low) (by omega) (by omega)
  have hmb := mass_bound hl
  have hneed : needOf h l d.High ≤ needOf h l d.Low := ceil_mono (by omega) (by omega) (by omega)
  have hrs : s ≤ lim → r ≤ s := by
    intro hs
    rcases Nat.lt_or_ge s r with c | c
    · have := r4 s c; have := s5 hs; omega
    · exact c
  have hmo := more_bound hl
  have hm := momOf_bound hl
  have ha := abs_bound hl
  have ht := trim_pos hh
  have e : F_hull_ship_float (shipOf h, l, d) = some (bif decide ((s : Int) + moreOf h l > (lim : Int)) then (noFloat, 8) else (⟨⟨r, s⟩, ⟨r + moreOf h l, s + moreOf h l⟩, if momOf h l < 0 then -1 else if momOf h l > 0 then 1 else 0⟩, 0)) := by
    simp only [F_hull_ship_float, loaded_eq hl, Option.bind_some, r2, s2, F_hull_withoutSign]
    rw [wr_in (n := 0 - momOf h l) (by omega) (by omega), show (shipOf h).trim_ = trimS h.Sections from rfl, wr_in (n := 4 * trimS h.Sections) (by omega) (by omega), Up_eq (by omega) (by omega)]
    simp only [Option.bind_some]
    rw [show -((-(minmax true (momOf h l) (0 - momOf h l))) / (4 * trimS h.Sections)) = moreOf h l from rfl, wr_in (n := (s : Int) + moreOf h l) (by omega) (by omega), wr_in (n := (r : Int) + moreOf h l) (by omega) (by omega), show (shipOf h).limit_ = (lim : Int) from hlim, compare_eq]
    cases decide ((s : Int) + moreOf h l > (lim : Int)) <;> rfl
  rw [e]
  simp only [F_thalwegref02_Float, r3, s3, rTrim_eq hl, rMoment_eq hl, Option.bind_some]
  by_cases c : s ≤ lim
  · have hr := hrs c
    rw [if_pos (show r ≤ lim by omega), if_pos c, show decide (((s : Nat) : Int) < 0) = false from decide_eq_false (by omega)]
    simp only [cond_false, rLimit_eq hh.small.1 hh.sec, hlim, Option.bind_some]
    rw [wr_in (n := (s : Int) + moreOf h l) (by omega) (by omega), wr_in (n := (r : Int) + moreOf h l) (by omega) (by omega)]
    cases hf : decide ((s : Int) + moreOf h l > (lim : Int)) with
    | true => exact ⟨_, false, rfl, rfl⟩
    | false =>
      by_cases c1 : momOf h l < 0
      · exact ⟨⟨⟨r, s⟩, ⟨r + moreOf h l, s + moreOf h l⟩, -1⟩, true, by simp only [c1, decide_true, cond_true, show ¬ momOf h l > 0 by omega, decide_false, cond_false], by simp only [cond_true, cond_false, c1, if_true]⟩
      · by_cases c2 : momOf h l > 0
        · exact ⟨⟨⟨r, s⟩, ⟨r + moreOf h l, s + moreOf h l⟩, 1⟩, true, by simp only [c1, decide_false, cond_false, c2, decide_true, cond_true], by simp only [cond_true, cond_false, c1, if_false, c2, if_true]⟩
        · exact ⟨⟨⟨r, s⟩, ⟨r + moreOf h l, s + moreOf h l⟩, 0⟩, true, by simp only [c1, decide_false, cond_false, c2], by simp only [cond_true, cond_false, c1, if_false, c2]⟩
  · rw [if_neg c]
    refine ⟨_, false, rfl, ?_⟩
    rw [show decide ((s : Int) + moreOf h l > (lim : Int)) = true from decide_eq_true (by omega)]
    rfl
end Go.Ev
/- Chapter 2: the law HullFloats is true. -/
set_option linter.unusedVariables false
set_option linter.unusedSimpArgs false
namespace Go.Ev
set_option maxHeartbeats 1000000

theorem zapp_nil' {α : Type} {m : List α} {n : Nat} (h : m.length * n ≤ 140737488355328) (hn : 0 < n) : app? [] m n = some m := app_nil h hn
def greatOk (x : THullSection) : Bool := decide (x.Curve.length ≤ 25) && decide (x.Holds.length ≤ 8)
theorem great_step (h : THull) {k : Nat} (hk : k < h.Sections.length) (h11 : k < 11) (hl : h.Sections.length ≤ 140737488355328) : (L_thalweglaw02_great_1 h).step (k : Int) = some (if greatOk h.Sections[k] then .inl ((k + 1 : Nat) : Int) else .inr (.inr true)) := by
  simp only [L_thalweglaw02_great_1, Int.ofNat_lt, hk, decide_true, cond_true, show decide (((k : Nat) : Int) < 11) = true from decide_eq_true (by omega), idx?_nat hk, Option.bind_some, greatOk]
  rw [wr_nat (by omega)]
  by_cases c1 : h.Sections[k].Curve.length ≤ 25
  · by_cases c2 : h.Sections[k].Holds.length ≤ 8
    · simp [c1, c2, show ¬ ((h.Sections[k].Curve.length : Int) > 25) by omega, show ¬ ((h.Sections[k].Holds.length : Int) > 8) by omega]
    · simp [c1, c2, show ¬ ((h.Sections[k].Curve.length : Int) > 25) by omega, show ((h.Sections[k].Holds.length : Int) > 8) by omega]
  · simp [c1, show ((h.Sections[k].Curve.length : Int) > 25) by omega]
theorem great_eq (h : THull) (hl : h.Sections.length ≤ 140737488355328) : ∃ b, F_thalweglaw02_great h = some b ∧ (b = false → small h.Sections) := by
  by_cases c : h.Sections.length ≤ 11
  · have hloop : loopC (L_thalweglaw02_great_1 h).step 0 = some (if h.Sections.all greatOk then .inl () else .inr true) := by
      refine loop_list0 h.Sections greatOk (fun k hk => great_step h hk (by omega) hl) ?_
      simp [L_thalweglaw02_great_1]
    simp only [F_thalweglaw02_great, hloop]
    cases ha : h.Sections.all greatOk with
    | false => exact ⟨true, rfl, fun h => by cases h⟩
    | true =>
      refine ⟨decide ((h.Sections.length : Int) > 10), rfl, fun hb => ⟨by have := of_decide_eq_false hb; omega, fun x hx => ?_⟩⟩
      have := List.all_eq_true.1 ha x hx
      simpa only [greatOk, Bool.and_eq_true, decide_eq_true_eq] using this
  · refine ⟨true, ?_, fun h => by cases h⟩
    have hloop : loopC (L_thalweglaw02_great_1 h).step 0 = some (if (List.range 11).all (fun k => greatOk (h.Sections[k]?.getD ⟨0, 0, 0, [], []⟩)) then .inl () else .inr true) := by
      refine loop_range0 11 _ (fun k hk => ?_) ?_
      · rw [great_step h (show k < h.Sections.length by omega) hk hl]
        simp [show k < h.Sections.length by omega]
      · simp only [L_thalweglaw02_great_1]
        rw [show decide (((11 : Nat) : Int) < (h.Sections.length : Int)) = true from decide_eq_true (by omega)]
        rfl
    simp only [F_thalweglaw02_great, hloop]
    cases (List.range 11).all (fun k => greatOk (h.Sections[k]?.getD ⟨0, 0, 0, [], []⟩)) with
    | false => rfl
    | true =>
      simp only [if_true, Option.bind_some]
      rw [show decide ((h.Sections.length : Int) > 10) = true from decide_eq_true (by omega)]
theorem own_eq {h : THull} (hs : small h.Sections) : F_thalweglaw02_own h = some h := by
  have hloop : loopC (L_thalweglaw02_own_1 h).step (0, ([] : List THullSection)) = some h.Sections := by
    refine loop_run (fun k : Nat => ((k : Int), h.Sections.take k)) h.Sections.length (e := h.Sections) (fun k hk => ?_) ?_
    · have h10 := hs.1
      have hb := hs.2 _ (List.getElem_mem hk)
      simp only [L_thalweglaw02_own_1, Int.ofNat_lt, hk, decide_true, cond_true, idx?_nat hk, Option.bind_some]
      rw [app_nil (m := h.Sections[k].Curve) (n := 16) (by omega) (by decide), app_nil (m := h.Sections[k].Holds) (n := 16) (by omega) (by decide)]
      simp only [Option.bind_some]
      rw [app_of (by simp; omega) (by decide), wr_nat (by omega)]
      simp only [Option.bind_some, List.take_succ_eq_append_getElem hk]
    · simp [L_thalweglaw02_own_1]
  simp only [F_thalweglaw02_own, hloop]
  rfl
theorem zrow_self (x : THullRow) : (x.Draft == x.Draft && (x.Volume == x.Volume && true)) = true := by simp
theorem hold_self (x : THullHold) : (x.At == x.At && (x.Lots == x.Lots && true)) = true := by simp
theorem knownZ_eq : F_thalweglaw02_known () = some true := rfl
theorem Float_bad {h : THull} (hs : small h.Sections) (ho : hullOk h = false) (l : List Int) (d : TBounds) : F_hull_Float (h, l, d) = some (noFloat, 2) := by
  simp only [F_hull_Float, launch_eq hs, Option.bind_some, ho]
  rfl
theorem Float_eq {h : THull} (hs : small h.Sections) (ho : hullOk h = true) (l : List Int) (d : TBounds) : ∃ y, F_hull_Float (h, l, d) = some y ∧ ((loadE h l d ≠ 0 ∧ y = (noFloat, loadE h l d)) ∨ (loadE h l d = 0 ∧ ∃ z ok, F_thalwegref02_Float (h, l, d) = some (z, ok) ∧ y = bif ok then (z, 0) else (noFloat, 8))) := by
  have hh := hl_of hs ho
  simp only [F_hull_Float, launch_eq hs, Option.bind_some, ho, cond_true, bne_self_eq_false, cond_false, checkLoad_eq hh l]
  by_cases c1 : l.length = (HL h).length
  · rw [if_pos c1]
    cases c2 : loadAll h l with
    | false => exact ⟨(noFloat, 3), rfl, .inl ⟨by simp [loadE, c1, c2], by simp [loadE, c1, c2]⟩⟩
    | true =>
      simp only [if_true, bne_self_eq_false, cond_false, F_hull_validDensity, valid_eq, Option.bind_some]
      cases c3 : vB d 900 1100 with
      | false => exact ⟨(noFloat, 2), rfl, .inl ⟨by simp [loadE, c1, c2, c3], by simp [loadE, c1, c2, c3]⟩⟩
      | true =>
        obtain ⟨z, ok, e1, e2⟩ := float_both (ld_of hh c1 c2) c3
        simp only [Bool.not_true, cond_false, e2, Option.bind_some]
        exact ⟨_, rfl, .inr ⟨by simp [loadE, c1, c2, c3], z, ok, e1, rfl⟩⟩
  · rw [if_neg c1]
    exact ⟨(noFloat, 4), rfl, .inl ⟨by simp [loadE, c1], by simp [loadE, c1]⟩⟩
theorem float_self (a : THullFloat) : (a.Mean.Low == a.Mean.Low && (a.Mean.High == a.Mean.High && (a.Deep.Low == a.Deep.Low && (a.Deep.High == a.Deep.High && (a.Head == a.Head && true))))) = true := by simp
end Go.Ev
/- Chapter 2: safe ways, and how much later they are. -/
set_option linter.unusedVariables false
set_option linter.unusedSimpArgs false
namespace Go.Ev
set_option maxHeartbeats 2000000

theorem numbers_eq {l : List Int} (hl : l.length ≤ 1000) : F_thalweglaw02_numbers l = some l := by
  simp only [F_thalweglaw02_numbers]
  rw [app_nil (m := l) (n := 8) (by omega) (by decide)]
  rfl
/-! what the law looks at -/
structure Wd (p : TPassage) : Prop where
  reaches : p.River.Reaches.length ≤ 5
  curves : ∀ x ∈ p.River.Reaches, x.Curve.length ≤ 35
  shoals : p.River.Shoals.length ≤ 45
  sides : p.Sides.length ≤ 6
  hours : ∀ x ∈ p.Sides, x.length ≤ 450
  way : p.Way.length ≤ 12
theorem wide_eq (p : TPassage) : ∃ b, F_thalweglaw02_wide p = some b ∧ (b = false → Wd p) := by
  simp only [F_thalweglaw02_wide]
  by_cases c1 : p.River.Reaches.length > 5
  · exact ⟨true, by rw [show decide ((p.River.Reaches.length : Int) > 5) = true from decide_eq_true (by omega)]; rfl, fun h => by cases h⟩
  rw [show decide ((p.River.Reaches.length : Int) > 5) = false from decide_eq_false (by omega)]
  by_cases c2 : p.River.Shoals.length > 45
  · exact ⟨true, by rw [show decide ((p.River.Shoals.length : Int) > 45) = true from decide_eq_true (by omega)]; rfl, fun h => by cases h⟩
  rw [show decide ((p.River.Shoals.length : Int) > 45) = false from decide_eq_false (by omega)]
  by_cases c3 : p.Sides.length > 6
  · exact ⟨true, by rw [show decide ((p.Sides.length : Int) > 6) = true from decide_eq_true (by omega)]; rfl, fun h => by cases h⟩
  rw [show decide ((p.Sides.length : Int) > 6) = false from decide_eq_false (by omega)]
  by_cases c4 : p.Way.length > 12
  · exact ⟨true, by rw [show decide ((p.Way.length : Int) > 12) = true from decide_eq_true (by omega)]; rfl, fun h => by cases h⟩
  rw [show decide ((p.Way.length : Int) > 12) = false from decide_eq_false (by omega)]
  simp only [cond_false]
  have l1 : loopC (L_thalweglaw02_wide_1 p).step 0 = some (if p.River.Reaches.all (fun x => decide (x.Curve.length ≤ 35)) then .inl () else .inr true) := by
    refine loop_list0 p.River.Reaches (fun x => decide (x.Curve.length ≤ 35)) (fun k hk => ?_) ?_
    · simp only [L_thalweglaw02_wide_1, Int.ofNat_lt, hk, decide_true, cond_true, idx?_nat hk, Option.bind_some]
      rw [wr_nat (by omega)]
      by_cases c : p.River.Reaches[k].Curve.length ≤ 35
      · simp [c, show ¬ ((p.River.Reaches[k].Curve.length : Int) > 35) by omega]
      · simp [c, show ((p.River.Reaches[k].Curve.length : Int) > 35) by omega]
    · simp [L_thalweglaw02_wide_1]
  have l2 : loopC (L_thalweglaw02_wide_2 p).step 0 = some (if p.Sides.all (fun x => decide (x.length ≤ 40) || (decide (400 < x.length) && decide (x.length ≤ 450))) then .inl () else .inr true) := by
    refine loop_list0 p.Sides (fun x => decide (x.length ≤ 40) || (decide (400 < x.length) && decide (x.length ≤ 450))) (fun k hk => ?_) ?_
    · simp only [L_thalweglaw02_wide_2, Int.ofNat_lt, hk, decide_true, cond_true, idx?_nat hk, Option.bind_some]
      rw [wr_nat (by omega)]
      by_cases c : p.Sides[k].length ≤ 40
      · simp [c, show ¬ ((p.Sides[k].length : Int) > 40) by omega, show ¬ ((p.Sides[k].length : Int) > 450) by omega]
      · by_cases d : p.Sides[k].length ≤ 400
        · simp [c, show ((p.Sides[k].length : Int) > 40) by omega, show ((p.Sides[k].length : Int) ≤ 400) by omega, show ¬ 400 < p.Sides[k].length by omega]
        · by_cases e : p.Sides[k].length ≤ 450
          · simp [c, show ((p.Sides[k].length : Int) > 40) by omega, show ¬ ((p.Sides[k].length : Int) ≤ 400) by omega, show 400 < p.Sides[k].length by omega, e, show ¬ ((p.Sides[k].length : Int) > 450) by omega]
          · simp [c, show ((p.Sides[k].length : Int) > 40) by omega, show ¬ ((p.Sides[k].length : Int) ≤ 400) by omega, show 400 < p.Sides[k].length by omega, e, show ((p.Sides[k].length : Int) > 450) by omega]
    · simp [L_thalweglaw02_wide_2]
  rw [l1]
  cases ha : p.River.Reaches.all (fun x => decide (x.Curve.length ≤ 35)) with
  | false => exact ⟨true, rfl, fun h => by cases h⟩
  | true =>
    simp only [if_true, Option.bind_some]
    rw [l2]
    cases hb : p.Sides.all (fun x => decide (x.length ≤ 40) || (decide (400 < x.length) && decide (x.length ≤ 450))) with
    | false => exact ⟨true, rfl, fun h => by cases h⟩
    | true =>
      refine ⟨false, rfl, fun _ => ⟨by omega, fun x hx => by simpa using List.all_eq_true.1 ha x hx, by omega, by omega, fun x hx => ?_, by omega⟩⟩
      have := List.all_eq_true.1 hb x hx
      simp only [Bool.or_eq_true, Bool.and_eq_true, decide_eq_true_eq] at this
      omega
theorem way_eq {p : TPassage} (h : Wd p) : F_thalweglaw02_way p = some p := by
  have h1 := h.reaches
  have h2 := h.shoals
  have h3 := h.sides
  have h4 := h.way
  simp only [F_thalweglaw02_way]
  rw [app_nil (m := p.River.Shoals) (n := 48) (by omega) (by decide)]
  simp only [Option.bind_some]
  have l1 : loopC (L_thalweglaw02_way_1 p p.River.Shoals).step (0, ([] : List TReach)) = some p.River.Reaches := by
    refine loop_run (fun k : Nat => ((k : Int), p.River.Reaches.take k)) p.River.Reaches.length (e := p.River.Reaches) (fun k hk => ?_) ?_
    · have hc := h.curves _ (List.getElem_mem hk)
      simp only [L_thalweglaw02_way_1, Int.ofNat_lt, hk, decide_true, cond_true, idx?_nat hk, Option.bind_some]
      rw [app_nil (m := p.River.Reaches[k].Curve) (n := 16) (by omega) (by decide)]
      simp only [Option.bind_some]
      rw [app_of (by simp; omega) (by decide), wr_nat (by omega)]
      simp only [Option.bind_some, List.take_succ_eq_append_getElem hk]
    · simp [L_thalweglaw02_way_1]
  rw [l1]
  simp only [Option.bind_some]
  rw [app_nil (m := p.Way) (n := 24) (by omega) (by decide)]
  simp only [Option.bind_some]
  have l2 : loopC (L_thalweglaw02_way_2 p p.River.Reaches p.River.Shoals p.Way).step (0, ([] : List (List TBounds))) = some p.Sides := by
    refine loop_run (fun k : Nat => ((k : Int), p.Sides.take k)) p.Sides.length (e := p.Sides) (fun k hk => ?_) ?_
    · have hc := h.hours _ (List.getElem_mem hk)
      simp only [L_thalweglaw02_way_2, Int.ofNat_lt, hk, decide_true, cond_true, idx?_nat hk, Option.bind_some]
      rw [app_nil (m := p.Sides[k]) (n := 16) (by omega) (by decide)]
      simp only [Option.bind_some]
      rw [app_of (by simp; omega) (by decide), wr_nat (by omega)]
      simp only [Option.bind_some, List.take_succ_eq_append_getElem hk]
    · simp [L_thalweglaw02_way_2]
  rw [l2]
  rfl
/-! later ways -/
def sh (k : Int) (p : TPass) : TPass := ⟨p.Place, ⟨wr (p.Hours.Low + k), wr (p.Hours.High + k)⟩⟩
theorem delay_eq {way : List TPass} (hl : way.length ≤ 1000) (k : Int) : F_hull_delay (way, k) = some (way.map (sh k)) := by
  simp only [F_hull_delay, F_slices_Clone_L_Pass_Pass]
  rw [app_nil (m := way) (n := 24) (by omega) (by decide)]
  simp only [Option.bind_some]
  have hloop : loopC (L_hull_delay_1 k way).step (0, way) = some (way.map (sh k)) := by
    rw [show ((0 : Int), way) = (fun j : Nat => ((j : Int), (way.map (sh k)).take j ++ way.drop j)) 0 from by simp]
    refine loop_run (fun j : Nat => ((j : Int), (way.map (sh k)).take j ++ way.drop j)) way.length (e := way.map (sh k)) (fun j hj => ?_) ?_
    · have hlen : j < ((way.map (sh k)).take j ++ way.drop j).length := by simp; omega
      have hget : ((way.map (sh k)).take j ++ way.drop j)[j] = way[j] := by
        rw [List.getElem_append_right (by simp; omega)]
        simp [Nat.min_eq_left (Nat.le_of_lt hj)]
      have hset : ∀ (l : List TPass) (y : TPass) (h : j < l.length), set? l (j : Int) y = some (l.set j y) := by
        intro l y h
        unfold set?
        rw [if_pos (by omega)]
        simp
      simp only [L_hull_delay_1, Int.ofNat_lt, hj, decide_true, cond_true, idx?_nat hlen, Option.bind_some, hget]
      rw [hset _ _ hlen]
      simp only [Option.bind_some]
      have hlen2 : j < (((way.map (sh k)).take j ++ way.drop j).set j ⟨way[j].Place, ⟨wr (way[j].Hours.Low + k), way[j].Hours.High⟩⟩).length := by simpa using hlen
      rw [idx?_nat hlen2]
      simp only [Option.bind_some, List.getElem_set_self]
      rw [hset _ _ hlen2]
      simp only [Option.bind_some, List.set_set]
      rw [show (⟨way[j].Place, ⟨wr (way[j].Hours.Low + k), wr (way[j].Hours.High + k)⟩⟩ : TPass) = sh k way[j] from rfl, map_take_set way (sh k) j hj, wr_nat (by omega)]
    · simp [L_hull_delay_1, List.take_of_length_le]
  rw [hloop]
  rfl
/-- How much later all passes can be. -/
def maxD (H : Nat) : List TPass → Int → Int
  | [], m => m
  | x :: l, m => maxD H l (minmax false m ((H : Int) - 1 - x.Hours.High))
theorem maxD_le (H : Nat) : ∀ (l : List TPass) (m d : Int), d ≤ maxD H l m ↔ d ≤ m ∧ ∀ x ∈ l, d ≤ (H : Int) - 1 - x.Hours.High
  | [], m, d => by simp [maxD]
  | x :: l, m, d => by
    have e : d ≤ minmax false m ((H : Int) - 1 - x.Hours.High) ↔ d ≤ m ∧ d ≤ (H : Int) - 1 - x.Hours.High := by
      simp only [minmax, Bool.false_eq_true, if_false]; split <;> omega
    rw [maxD, maxD_le H l, e]
    simp only [List.mem_cons, forall_eq_or_imp]
    constructor
    · rintro ⟨⟨a, b⟩, c⟩; exact ⟨a, b, c⟩
    · rintro ⟨a, b, c⟩; exact ⟨⟨a, b⟩, c⟩

section
variable {r : TRiver} {s : List (List TBounds)} {H : Nat}
theorem longest_loop {p : TPassage} {x1 : List TBounds} (hx : x1.length = H) (hH : 1 ≤ H ∧ H ≤ 1000) : ∀ (m : List TPass) (k : Nat) (v : Int), p.Way.drop k = m → (∀ x ∈ m, 0 ≤ x.Hours.High ∧ x.Hours.High < H) → k + m.length ≤ 1000000 →
    loopC (L_hull_longestDelay_1 x1 p).step (v, (k : Int)) = some (maxD H m v)
  | [], k, v, h, _, _ => by
    have := drop_nil h
    rw [loopC_eq]
    simp [L_hull_longestDelay_1, maxD, show ¬ k < p.Way.length by omega]
  | x :: m, k, v, h, hm, hk => by
    obtain ⟨hk1, hg, hd⟩ := drop_cons h
    have hb := hm x (by simp)
    have e : (L_hull_longestDelay_1 x1 p).step (v, (k : Int)) = some (.inl (minmax false v ((H : Int) - 1 - x.Hours.High), ((k + 1 : Nat) : Int))) := by
      simp only [L_hull_longestDelay_1, Int.ofNat_lt, hk1, decide_true, cond_true, idx?_nat hk1, hg, Option.bind_some, hx]
      rw [wr_in (n := (H : Int) - 1) (by omega) (by omega), wr_in (n := (H : Int) - 1 - x.Hours.High) (by omega) (by omega), wr_nat (by simp at hk; omega)]
    rw [loopC_eq, e]
    simp only
    rw [longest_loop hx hH m (k + 1) _ hd (fun y hy => hm y (by simp [hy])) (by simp at hk; omega), maxD]
theorem longest_eq {p : TPassage} {x1 : List TBounds} (hx : x1.length = H) (hH : 1 ≤ H ∧ H ≤ 1000) (hi : idx? p.Sides 0 = some x1) (hw : ∀ x ∈ p.Way, 0 ≤ x.Hours.High ∧ x.Hours.High < H) (hl : p.Way.length ≤ 1000) : F_hull_longestDelay p = some (maxD H p.Way ((H : Int) - 1)) := by
  simp only [F_hull_longestDelay, hi, Option.bind_some, hx]
  rw [wr_in (n := (H : Int) - 1) (by omega) (by omega), show (0 : Int) = ((0 : Nat) : Int) from rfl, longest_loop hx hH p.Way 0 _ rfl hw (by omega)]
  rfl

/-- Surely, in a way that is k hours later. -/
def lstK (r : TRiver) (s : List (List TBounds)) (way : List TPass) (k : Nat) : Int × Int × Int × Int := leastOf r s (way.map (sh (k : Int)))
theorem sh_ok {way : List TPass} (h : FcOk r s H) (hw : ∀ x ∈ way, PassOk r H x) {k : Nat} (hk : (k : Int) ≤ maxD H way ((H : Int) - 1)) :
    (∀ x ∈ way, sh (k : Int) x = ⟨x.Place, ⟨x.Hours.Low + k, x.Hours.High + k⟩⟩) ∧ ∀ y ∈ way.map (sh (k : Int)), PassOk r H y := by
  obtain ⟨h0, h1⟩ := (maxD_le H way _ _).1 hk
  have hm := h.most
  have e : ∀ x ∈ way, sh (k : Int) x = ⟨x.Place, ⟨x.Hours.Low + k, x.Hours.High + k⟩⟩ := by
    intro x hx
    have a := hw x hx
    have b := h1 x hx
    have c := a.low
    have d := a.le
    unfold sh
    rw [wr_in (n := x.Hours.Low + (k : Int)) (by omega) (by omega), wr_in (n := x.Hours.High + (k : Int)) (by omega) (by omega)]
  refine ⟨e, fun y hy => ?_⟩
  obtain ⟨x, hx, rfl⟩ := List.mem_map.1 hy
  have a := hw x hx
  have b := h1 x hx
  rw [e x hx]
  exact ⟨a.place, by have := a.low; show 0 ≤ x.Hours.Low + (k : Int); omega, by have := a.le; show x.Hours.Low + (k : Int) ≤ x.Hours.High + k; omega, by show x.Hours.High + (k : Int) < H; omega⟩
/-- Until the hour of the least depth is no hour of its pass any more, the way is too shallow. -/
theorem too_shallow {way : List TPass} (h : FcOk r s H) (hw : ∀ x ∈ way, PassOk r H x) (hn : way ≠ []) {k : Nat} (hk : (k : Int) ≤ maxD H way ((H : Int) - 1)) {need : Int} (hs : (lstK r s way k).2.2.1 < need) :
    ∃ (m : Nat) (hm : m < way.length), (lstK r s way k).1 = m ∧ way[m].Hours.Low + k ≤ (lstK r s way k).2.1 ∧ (lstK r s way k).2.1 < H ∧
      ∀ j : Nat, k ≤ j → (j : Int) ≤ (lstK r s way k).2.1 - way[m].Hours.Low → (j : Int) ≤ maxD H way ((H : Int) - 1) → (lstK r s way j).2.2.1 < need := by
  obtain ⟨e, ok⟩ := sh_ok h hw hk
  obtain ⟨m, hl⟩ := least_of h ok (by simpa using hn)
  have hm : m < way.length := by have := hl.lt; simpa using this
  have hmem := List.getElem_mem hm
  have hsm : (way.map (sh (k : Int)))[m]'hl.lt = ⟨way[m].Place, ⟨way[m].Hours.Low + k, way[m].Hours.High + k⟩⟩ := by rw [List.getElem_map, e _ hmem]
  have hpk := ok _ (List.getElem_mem hl.lt)
  have sp := passLo_spec (s := s) hpk
  have h1 := hl.hour
  have h2 := hl.lo
  rw [hsm] at hpk sp h1 h2
  have hh := hpk.high
  simp only at sp hh
  refine ⟨m, hm, hl.pass, ?_, ?_, ?_⟩
  · show way[m].Hours.Low + (k : Int) ≤ (leastOf r s (way.map (sh (k : Int)))).2.1
    rw [h1]; exact sp.1
  · show (leastOf r s (way.map (sh (k : Int)))).2.1 < H
    rw [h1]; omega
  · intro j hkj hj hjM
    obtain ⟨e', ok'⟩ := sh_ok h hw hjM
    obtain ⟨m', hl'⟩ := least_of h ok' (by simpa using hn)
    have hmj : sh (j : Int) way[m] ∈ way.map (sh (j : Int)) := List.mem_map.2 ⟨_, hmem, rfl⟩
    have a := hl'.all _ hmj
    have hpj := ok' _ hmj
    have sp' := passLo_spec (s := s) hpj
    rw [e' _ hmem] at a sp'
    have hj : (j : Int) ≤ (leastOf r s (way.map (sh (k : Int)))).2.1 - way[m].Hours.Low := hj
    rw [h1] at hj
    have b := sp'.2.2.2.1 (passLo r s ⟨way[m].Place, ⟨way[m].Hours.Low + k, way[m].Hours.High + k⟩⟩).2 (by simp only; omega) (by simp only; omega)
    have c := sp.2.2.1
    have hs : (leastOf r s (way.map (sh (k : Int)))).2.2.1 < need := hs
    rw [h2] at hs
    simp only at b c
    show (leastOf r s (way.map (sh (j : Int)))).2.2.1 < need
    omega

/-- The first of n numbers of hours, from k on, for which a way is safe. -/
def firstS (sure : Nat → Bool) : Nat → Nat → Option Nat
  | 0, _ => none
  | n + 1, k => if sure k then some k else firstS sure n (k + 1)
theorem firstS_skip (sure : Nat → Bool) : ∀ (d n k : Nat), (∀ j, k ≤ j → j < k + d → sure j = false) → firstS sure (d + n) k = firstS sure n (k + d)
  | 0, n, k, _ => by simp
  | d + 1, n, k, h => by
    rw [show d + 1 + n = (d + n) + 1 by omega, firstS, h k (by omega) (by omega), if_neg (by simp), firstS_skip sure d n (k + 1) fun j a b => h j (by omega) (by omega), show k + 1 + d = k + (d + 1) by omega]
theorem firstS_none (sure : Nat → Bool) : ∀ (n k : Nat), (∀ j, k ≤ j → j < k + n → sure j = false) → firstS sure n k = none
  | 0, k, _ => rfl
  | n + 1, k, h => by rw [firstS, h k (by omega) (by omega), if_neg (by simp), firstS_none sure n (k + 1) fun j a b => h j (by omega) (by omega)]
end
end Go.Ev
/- Chapter 2: the law of safe ways. -/
set_option linter.unusedVariables false
set_option linter.unusedSimpArgs false
namespace Go.Ev
set_option maxHeartbeats 2000000

/-- What the draft is, or why there is none. -/
theorem start_cases {h : THull} (hs : small h.Sections) (l : List Int) (d : TBounds) :
    (∃ e y, e ≠ 0 ∧ F_hull_Float (h, l, d) = some (y, e) ∧ ∀ p, F_thalweglaw02_start (⟨h, l, d⟩, p) = some (noFloat, e)) ∨
    (∃ z, F_hull_Float (h, l, d) = some (z, 0) ∧ ∀ p e, F_thalwegref02_Passage p = some e → F_thalweglaw02_start (⟨h, l, d⟩, p) = some (z, e)) := by
  cases ho : hullOk h with
  | false =>
    refine Or.inl ⟨2, noFloat, by decide, Float_bad hs ho l d, fun p => ?_⟩
    simp only [F_thalweglaw02_start, F_thalwegref02_Load, refHull_eq hs, ho, Option.bind_some, Bool.not_false, cond_true]
    rfl
  | true =>
    obtain ⟨y, hy, hc⟩ := Float_eq hs ho l d
    have hL := rLoad_eq hs ho l d
    rcases hc with ⟨e0, rfl⟩ | ⟨e0, z, ok, e1, rfl⟩
    · refine Or.inl ⟨loadE h l d, noFloat, e0, hy, fun p => ?_⟩
      simp only [F_thalweglaw02_start, hL, Option.bind_some, show (loadE h l d != 0) = true by simpa using e0, cond_true]
      rfl
    · cases ok with
      | false =>
        refine Or.inl ⟨8, noFloat, by decide, hy, fun p => ?_⟩
        simp only [F_thalweglaw02_start, hL, Option.bind_some, e0, bne_self_eq_false, cond_false, e1, Bool.not_false, cond_true]
        rfl
      | true =>
        refine Or.inr ⟨z, hy, fun p e hp => ?_⟩
        simp only [F_thalweglaw02_start, hL, Option.bind_some, e0, bne_self_eq_false, cond_false, e1, Bool.not_true, hp]

theorem Wd.short {p : TPassage} (W : Wd p) : ∀ x ∈ p.Sides, x.length ≤ 1000000 := fun x hx => by have := W.hours x hx; omega

/-- The least depth of a way, where all of it can be told. -/
theorem sound_ok {r : TRiver} {s : List (List TBounds)} {H : Nat} {kl : Int} (h : FcOk r s H) (hz : startErr r s = 0) (hk : inB kl 0 500 = true) (hs : ∀ x ∈ s, x.length ≤ 1000000) {way : List TPass} (hw : way.length ≤ 1000) (c : wayErr r H way = 0) :
    F_hull_sound ⟨r, s, way, kl⟩ = some (⟨⟨(leastOf r s way).2.2.1, (leastOf r s way).2.2.2⟩, (leastOf r s way).1, (leastOf r s way).2.1⟩, 0) := by
  simp only [F_hull_sound]
  rw [within_eq 0 500 [kl] (by simp)]
  simp only [List.all_cons, List.all_nil, Bool.and_true, hk, Option.bind_some, Bool.not_true, cond_false]
  rw [Shallowest_eq h hz hs hw]
  simp only [c, if_true, Option.bind_some]
/-- A passage is refused by both, or told by both. -/
theorem sound_cases {p : TPassage} (W : Wd p) :
    (∃ e y, e ≠ 0 ∧ F_hull_sound p = some (y, e) ∧ F_thalwegref02_Passage p = some e) ∨
    (∃ H, FcOk p.River p.Sides H ∧ startErr p.River p.Sides = 0 ∧ inB p.Keel 0 500 = true ∧ wayErr p.River H p.Way = 0 ∧ (∃ x1, idx? p.Sides 0 = some x1 ∧ x1.length = H) ∧ F_thalwegref02_Passage p = some 0) := by
  have hs := W.short
  have hsl := W.sides
  have hwl := W.way
  have hw : F_numbers_Within (0, 500, ([p.Keel] : List Int)) = some (inB p.Keel 0 500) := by
    rw [within_eq 0 500 [p.Keel] (by simp)]; simp
  cases hk : inB p.Keel 0 500 with
  | false =>
    refine Or.inl ⟨3, ⟨⟨0, 0⟩, 0, 0⟩, by decide, ?_, ?_⟩
    · simp only [F_hull_sound, hw, hk, Option.bind_some, Bool.not_false, cond_true]
    · simp only [F_thalwegref02_Passage, In_eq, hk, Option.bind_some, Bool.not_false, cond_true]
  | true =>
    have hst := refStart_eq (r := p.River) (sides := p.Sides) hs (by omega)
    by_cases hz : startErr p.River p.Sides = 0
    · obtain ⟨H, h⟩ := fcOk_of hz
      obtain ⟨hr, hrl⟩ := h.lens
      have hm := h.most
      have hln := h.len
      have hb := h.bounds
      have hsl0 : 0 < p.Sides.length := by omega
      have h0 : idx? p.Sides 0 = some p.Sides[0] := idx?_nat hsl0
      have hsH : p.Sides[0].length = H := h.hours _ (List.getElem_mem hsl0)
      have hrw := refWay_eq (r := p.River) (way := p.Way) (show H ≤ 1000 by omega) hr (show p.River.Reaches.length ≤ 1000 by omega) (show p.Way.length ≤ 1000 by omega)
      have hP : F_thalwegref02_Passage p = some (wayErr p.River H p.Way) := by
        simp only [F_thalwegref02_Passage, In_eq, hk, Option.bind_some, Bool.not_true, cond_false, hst, hz, bne_self_eq_false, h0, hsH, hrw]
      by_cases c : wayErr p.River H p.Way = 0
      · exact Or.inr ⟨H, h, hz, rfl, c, ⟨_, h0, hsH⟩, by rw [hP, c]⟩
      · refine Or.inl ⟨wayErr p.River H p.Way, ⟨⟨0, 0⟩, 0, 0⟩, c, ?_, hP⟩
        · simp only [F_hull_sound, hw, hk, Option.bind_some, Bool.not_true, cond_false]
          rw [Shallowest_eq h hz hs (by omega)]
          simp only [if_neg c, Option.bind_some]
    · refine Or.inl ⟨startErr p.River p.Sides, ⟨⟨0, 0⟩, 0, 0⟩, hz, ?_, ?_⟩
      · simp only [F_hull_sound, hw, hk, Option.bind_some, Bool.not_true, cond_false]
        rw [Shallowest_err hz hs]
        rfl
      · simp only [F_thalwegref02_Passage, In_eq, hk, Option.bind_some, Bool.not_true, cond_false, hst, show (startErr p.River p.Sides != 0) = true by simpa using hz, cond_true]

theorem Safe_bad {h : THull} {l : List Int} {d : TBounds} {y : THullFloat} {e : Int} (he : e ≠ 0) (hf : F_hull_Float (h, l, d) = some (y, e)) (p : TPassage) : F_hull_Safe (h, l, d, p) = some (false, false, 0, 0, e) := by
  simp only [F_hull_Safe, hf, Option.bind_some, show (e != 0) = true by simpa using he, cond_true]
theorem Safe_way {h : THull} {l : List Int} {d : TBounds} {z : THullFloat} (hf : F_hull_Float (h, l, d) = some (z, 0)) {p : TPassage} {y : Thull_leastDepth} {e : Int} (he : e ≠ 0) (hp : F_hull_sound p = some (y, e)) : F_hull_Safe (h, l, d, p) = some (false, false, 0, 0, e) := by
  simp only [F_hull_Safe, hf, Option.bind_some, bne_self_eq_false, cond_false, hp, show (e != 0) = true by simpa using he, cond_true]
theorem Safe_ok {h : THull} {l : List Int} {d : TBounds} {z : THullFloat} (hf : F_hull_Float (h, l, d) = some (z, 0)) {p : TPassage} {y : Thull_leastDepth} (hp : F_hull_sound p = some (y, 0)) :
    F_hull_Safe (h, l, d, p) = some (decide (wr (z.Deep.High + p.Keel) ≤ y.Bounds.Low), decide (wr (z.Deep.Low + p.Keel) ≤ y.Bounds.High), y.pass_, y.hour_, 0) := by
  simp only [F_hull_Safe, hf, Option.bind_some, bne_self_eq_false, cond_false, hp, F_hull_leastDepth_surely, F_hull_leastDepth_possibly]
/-- An error at once. -/
theorem Later_bad {h : THull} {l : List Int} {d : TBounds} {p : TPassage} {e : Int} (he : e ≠ 0) (hw : p.Way.length ≤ 1000) (hs : F_hull_Safe (h, l, d, ⟨p.River, p.Sides, p.Way.map (sh 0), p.Keel⟩) = some (false, false, 0, 0, e)) : F_hull_Later (h, l, d, p) = some (0, e) := by
  simp only [F_hull_Later]
  rw [loopC_eq]
  simp only [L_hull_Later_1, delay_eq hw, Option.bind_some, hs, show (e != 0) = true by simpa using he, cond_true]
theorem sh_zero {way : List TPass} (hI : ∀ x ∈ way, wr x.Hours.Low = x.Hours.Low ∧ wr x.Hours.High = x.Hours.High) : way.map (sh 0) = way := by
  rw [List.map_congr_left (g := id), List.map_id]
  intro x hx
  obtain ⟨a, b⟩ := hI x hx
  simp only [sh, Int.add_zero, a, b, id]

section
variable {r : TRiver} {s : List (List TBounds)} {H : Nat}
/-- Is the way safe k hours later? -/
def sureK (r : TRiver) (s : List (List TBounds)) (way : List TPass) (need : Int) (k : Nat) : Bool := decide (need ≤ (lstK r s way k).2.2.1)
def ansP : Option Nat → Int × Int
  | some j => ((j : Int), 0)
  | none => (0, 7)
def ansR : Option Nat → Int
  | some j => (j : Int)
  | none => -1
theorem later_loop {p : TPassage} (h : FcOk p.River p.Sides H) (hz : startErr p.River p.Sides = 0) (hk : inB p.Keel 0 500 = true) (hss : ∀ x ∈ p.Sides, x.length ≤ 1000000) (hw : ∀ x ∈ p.Way, PassOk p.River H x) (hn : p.Way ≠ []) (hl : p.Way.length ≤ 60) {x1 : List TBounds} (hx : x1.length = H) (hi : idx? p.Sides 0 = some x1)
    {hu : THull} {l : List Int} {d : TBounds} {z : THullFloat} (hf : F_hull_Float (hu, l, d) = some (z, 0)) {M : Nat} (hM : (M : Int) = maxD H p.Way ((H : Int) - 1)) : ∀ (n k : Nat) (w : List TPass), k ≤ M → M + 1 - k ≤ n →
    loopC (L_hull_Later_1 l hu d p).step ((k : Int), w) = some (ansP (firstS (sureK p.River p.Sides p.Way (wr (z.Deep.High + p.Keel))) (M + 1 - k) k))
  | 0, k, w, hkM, hn0 => by omega
  | n + 1, k, w, hkM, hn0 => by
    have hkm : (k : Int) ≤ maxD H p.Way ((H : Int) - 1) := by omega
    obtain ⟨e, ok⟩ := sh_ok h hw hkm
    have hmost := h.most
    have hpos := h.pos
    have hMH : (M : Int) ≤ (H : Int) - 1 := by rw [hM]; exact ((maxD_le H p.Way _ _).1 (Int.le_refl _)).1
    have hlen0 : p.Way.length ≠ 0 := by simpa using hn
    have hwe : wayErr p.River H (p.Way.map (sh (k : Int))) = 0 := wayErr_of ok (by simpa using hn) (by simpa using hl)
    have hso := Safe_ok hf (sound_ok (kl := p.Keel) h hz hk hss (way := p.Way.map (sh (k : Int))) (by rw [List.length_map]; omega) hwe)
    have hfi : firstS (sureK p.River p.Sides p.Way (wr (z.Deep.High + p.Keel))) (M + 1 - k) k = if sureK p.River p.Sides p.Way (wr (z.Deep.High + p.Keel)) k then some k else firstS (sureK p.River p.Sides p.Way (wr (z.Deep.High + p.Keel))) (M - k) (k + 1) := by
      rw [show M + 1 - k = (M - k) + 1 by omega]; rfl
    rw [loopC_eq]
    generalize hLL : loopC (L_hull_Later_1 l hu d p).step = LL
    simp only [L_hull_Later_1, delay_eq (show p.Way.length ≤ 1000 by omega), Option.bind_some, hso, bne_self_eq_false, cond_false]
    by_cases c : wr (z.Deep.High + p.Keel) ≤ (leastOf p.River p.Sides (p.Way.map (sh (k : Int)))).2.2.1
    · have hsu : sureK p.River p.Sides p.Way (wr (z.Deep.High + p.Keel)) k = true := decide_eq_true c
      rw [decide_eq_true c, hfi, hsu]
      rfl
    · have hsu : sureK p.River p.Sides p.Way (wr (z.Deep.High + p.Keel)) k = false := decide_eq_false c
      rw [decide_eq_false c]
      simp only [cond_false]
      obtain ⟨m, hm, e1, e2, e3, e4⟩ := too_shallow h hw hn hkm (need := wr (z.Deep.High + p.Keel)) (show (lstK p.River p.Sides p.Way k).2.2.1 < wr (z.Deep.High + p.Keel) by unfold lstK; omega)
      unfold lstK at e1 e2 e3
      have hb := hw _ (List.getElem_mem hm)
      have hb1 := hb.low
      rw [e1, idx?_nat hm]
      simp only [Option.bind_some]
      rw [longest_eq hx ⟨hpos, by omega⟩ hi (fun x hx => ⟨by have := (hw x hx).low; have := (hw x hx).le; omega, (hw x hx).high⟩) (by omega)]
      simp only [Option.bind_some]
      rw [wr_in (n := (leastOf p.River p.Sides (p.Way.map (sh (k : Int)))).2.1 - p.Way[m].Hours.Low) (by omega) (by omega)]
      generalize hg : (leastOf p.River p.Sides (p.Way.map (sh (k : Int)))).2.1 - p.Way[m].Hours.Low = g at *
      have hg0 : (k : Int) ≤ g := by omega
      rw [wr_in (n := g + 1) (by omega) (by omega), ← hM]
      have e4 : ∀ j : Nat, k ≤ j → (j : Int) ≤ g → j ≤ M → sureK p.River p.Sides p.Way (wr (z.Deep.High + p.Keel)) j = false := by
        intro j a b c
        have := e4 j a (by show (j : Int) ≤ (leastOf p.River p.Sides (p.Way.map (sh (k : Int)))).2.1 - p.Way[m].Hours.Low; omega) (by omega)
        exact decide_eq_false (by omega)
      by_cases c2 : g + 1 > (M : Int)
      · rw [decide_eq_true c2, firstS_none _ _ _ (fun j a b => e4 j a (by omega) (by omega))]
        rfl
      · rw [decide_eq_false c2]
        simp only [cond_false]
        obtain ⟨gn, rfl⟩ := Int.eq_ofNat_of_zero_le (show 0 ≤ g by omega)
        have hgk : k ≤ gn := by omega
        subst hLL
        rw [show ((gn : Int) + 1) = ((gn + 1 : Nat) : Int) by omega, later_loop h hz hk hss hw hn hl hx hi hf hM n (gn + 1) _ (by omega) (by omega)]
        rw [show M + 1 - k = (gn + 1 - k) + (M + 1 - (gn + 1)) by omega, firstS_skip _ _ _ _ (fun j a b => e4 j a (by omega) (by omega)), show k + (gn + 1 - k) = gn + 1 by omega]

theorem rl_loop {p : TPassage} {z : THullFloat} {x1 : List TBounds} (hx : x1.length = H) (hH : H ≤ 1000) (hi : idx? p.Sides 0 = some x1) {k : Nat} (hk : k ≤ 1000) : ∀ (m : List TPass) (j : Nat) (acc : List TPass), p.Way.drop j = m → (∀ x ∈ m, PassOk p.River H x) → acc.length + m.length ≤ 1000 → j + m.length ≤ 1000 →
    loopC (L_thalwegref02_Later_1 (k : Int) z p).step ((j : Int), acc) = some (if m.all (fun x => decide (x.Hours.High + k < H)) then .inl (acc ++ m.map (sh (k : Int))) else .inr (-1))
  | [], j, acc, h, _, _, _ => by
    have := drop_nil h
    rw [loopC_eq]
    simp [L_thalwegref02_Later_1, show ¬ j < p.Way.length by omega]
  | x :: m, j, acc, h, hm, ha, hj => by
    obtain ⟨hk1, hg, hd⟩ := drop_cons h
    have hb := hm x (by simp)
    have b1 := hb.low
    have b2 := hb.le
    have b3 := hb.high
    rw [loopC_eq]
    generalize hLL : loopC (L_thalwegref02_Later_1 (k : Int) z p).step = LL
    simp only [L_thalwegref02_Later_1, Int.ofNat_lt, hk1, decide_true, cond_true, idx?_nat hk1, hg, Option.bind_some, hi, hx]
    rw [wr_in (n := x.Hours.High + (k : Int)) (by omega) (by omega)]
    by_cases c : x.Hours.High + (k : Int) < H
    · rw [decide_eq_false (show ¬ x.Hours.High + (k : Int) ≥ (H : Int) by omega)]
      simp only [cond_false]
      rw [app_of (by simp at ha ⊢; omega) (by decide), wr_nat (by simp at hj; omega)]
      simp only [Option.bind_some]
      subst hLL
      rw [rl_loop hx hH hi hk m (j + 1) _ hd (fun y hy => hm y (by simp [hy])) (by simp at ha ⊢; omega) (by simp at hj; omega)]
      have hsx : sh (k : Int) x = ⟨x.Place, ⟨wr (x.Hours.Low + (k : Int)), x.Hours.High + (k : Int)⟩⟩ := by
        unfold sh; rw [wr_in (n := x.Hours.High + (k : Int)) (by omega) (by omega)]
      simp only [List.all_cons, c, decide_true, Bool.true_and, List.map_cons, hsx, List.append_assoc, List.cons_append, List.nil_append]
    · rw [decide_eq_true (show x.Hours.High + (k : Int) ≥ (H : Int) by omega)]
      simp [c]

theorem refLater_loop {p : TPassage} (h : FcOk p.River p.Sides H) (hw : ∀ x ∈ p.Way, PassOk p.River H x) (hn : p.Way ≠ []) (hl : p.Way.length ≤ 60) {x1 : List TBounds} (hx : x1.length = H) (hi : idx? p.Sides 0 = some x1)
    {z : THullFloat} {M : Nat} (hM : (M : Int) = maxD H p.Way ((H : Int) - 1)) : ∀ (n k : Nat), k + n = M + 1 →
    loopC (L_thalwegref02_Later_2 z p).step (k : Int) = some (ansR (firstS (sureK p.River p.Sides p.Way (wr (z.Deep.High + p.Keel))) n k))
  | 0, k, hk => by
    have hmost := h.most
    have hpos := h.pos
    have hMH : (M : Int) ≤ (H : Int) - 1 := by rw [hM]; exact ((maxD_le H p.Way _ _).1 (Int.le_refl _)).1
    have hall : p.Way.all (fun x => decide (x.Hours.High + (k : Int) < H)) = false := by
      rw [Bool.eq_false_iff]
      intro hall
      rw [List.all_eq_true] at hall
      have hall : ∀ x ∈ p.Way, x.Hours.High + (k : Int) < H := fun x hx => of_decide_eq_true (hall x hx)
      obtain ⟨x0, hx0⟩ := List.exists_mem_of_ne_nil _ hn
      have a0 := hall x0 hx0
      have a1 := (hw x0 hx0).low
      have a2 := (hw x0 hx0).le
      have := (maxD_le H p.Way ((H : Int) - 1) (k : Int)).2 ⟨by omega, fun x hx => by have := hall x hx; omega⟩
      omega
    rw [loopC_eq]
    simp only [L_thalwegref02_Later_2]
    rw [show (0 : Int) = ((0 : Nat) : Int) from rfl, rl_loop hx (by omega) hi (show k ≤ 1000 by omega) p.Way 0 [] rfl hw (by simp; omega) (by omega), hall]
    rfl
  | n + 1, k, hk => by
    have hmost := h.most
    have hpos := h.pos
    have hMH : (M : Int) ≤ (H : Int) - 1 := by rw [hM]; exact ((maxD_le H p.Way _ _).1 (Int.le_refl _)).1
    have hkm : (k : Int) ≤ maxD H p.Way ((H : Int) - 1) := by omega
    obtain ⟨e, ok⟩ := sh_ok h hw hkm
    have hlen0 : p.Way.length ≠ 0 := by simpa using hn
    have hwe : wayErr p.River H (p.Way.map (sh (k : Int))) = 0 := wayErr_of ok (by simpa using hn) (by simpa using hl)
    have hall : p.Way.all (fun x => decide (x.Hours.High + (k : Int) < H)) = true := by
      rw [List.all_eq_true]
      intro x hx
      have := ((maxD_le H p.Way _ _).1 hkm).2 x hx
      exact decide_eq_true (by omega)
    rw [loopC_eq]
    generalize hLL : loopC (L_thalwegref02_Later_2 z p).step = LL
    simp only [L_thalwegref02_Later_2]
    rw [show (0 : Int) = ((0 : Nat) : Int) from rfl, rl_loop hx (by omega) hi (show k ≤ 1000 by omega) p.Way 0 [] rfl hw (by simp; omega) (by omega), hall]
    simp only [if_true, Option.bind_some, List.nil_append, F_thalwegref02_Fits]
    rw [refShallowest_eq h (show (p.Way.map (sh (k : Int))).length ≤ 1000 by rw [List.length_map]; omega) hwe]
    simp only [Option.bind_some, firstS]
    by_cases c : wr (z.Deep.High + p.Keel) ≤ (leastOf p.River p.Sides (p.Way.map (sh (k : Int)))).2.2.1
    · have hsu : sureK p.River p.Sides p.Way (wr (z.Deep.High + p.Keel)) k = true := decide_eq_true c
      rw [decide_eq_true c, hsu]
      rfl
    · have hsu : sureK p.River p.Sides p.Way (wr (z.Deep.High + p.Keel)) k = false := decide_eq_false c
      rw [decide_eq_false c, hsu]
      simp only [cond_false, Bool.false_eq_true, if_false]
      subst hLL
      rw [wr_nat (by omega), refLater_loop h hw hn hl hx hi hM n (k + 1) (by omega)]
end

theorem safes_true {h : THull} {l : List Int} {d : TBounds} {p : TPassage} (h1 : h.Sections.length ≤ 140737488355328) (hI : ∀ x ∈ p.Way, wr x.Hours.Low = x.Hours.Low ∧ wr x.Hours.High = x.Hours.High) : F_thalweglaw02_HullSafes (⟨h, l, d⟩, p) = some true := by
  obtain ⟨b, hb, hsm⟩ := great_eq h h1
  simp only [F_thalweglaw02_HullSafes, hb, Option.bind_some, knownZ_eq]
  cases b with
  | true => rfl
  | false =>
    have hs := hsm rfl
    simp only [cond_false]
    by_cases c0 : l.length > 20
    · rw [show decide ((l.length : Int) > 20) = true from decide_eq_true (by omega)]; rfl
    · rw [show decide ((l.length : Int) > 20) = false from decide_eq_false (by omega)]
      obtain ⟨b, hb, hW⟩ := wide_eq p
      simp only [cond_false, hb, Option.bind_some]
      cases b with
      | true => rfl
      | false =>
        have W := hW rfl
        have hwl := W.way
        have hloop : ∀ y9 y12, loopC (L_thalweglaw02_HullSafes_1 y9 y12 ⟨h, l, d⟩ p p).step 0 = some (.inl ()) := by
          intro y9 y12
          rw [show (0 : Int) = ((0 : Nat) : Int) from rfl, loop_run (fun k : Nat => (k : Int)) p.Way.length (e := .inl ())]
          · intro m hm
            simp only [L_thalweglaw02_HullSafes_1, Int.ofNat_lt, hm, decide_true, cond_true, idx?_nat hm, Option.bind_some, beq_self_eq_true, Bool.and_self, Bool.not_true, cond_false]
            rw [wr_nat (by omega)]
          · simp [L_thalweglaw02_HullSafes_1]
        simp only [cond_false, way_eq W, own_eq hs, numbers_eq (show l.length ≤ 1000 by omega), Option.bind_some]
        rcases start_cases hs l d with ⟨e, y, he, hf, hst⟩ | ⟨z, hf, hst⟩
        · rw [Safe_bad he hf, Later_bad he (by omega) (Safe_bad he hf _)]
          simp only [Option.bind_some]
          rw [hloop]
          simp only [Option.bind_some, hst, show (e != 0) = true by simpa using he, cond_true, beq_self_eq_true, Bool.not_false]
        · rcases sound_cases W with ⟨e, y, he, hso, hP⟩ | ⟨H, hF, hz, hk, hwe, ⟨x1, hi, hx⟩, hP⟩
          · have hsf := Safe_way hf he hso
            rw [hsf, Later_bad he (by omega) (by rw [sh_zero hI]; exact hsf)]
            simp only [Option.bind_some]
            rw [hloop]
            simp only [Option.bind_some, hst p e hP, show (e != 0) = true by simpa using he, cond_true, beq_self_eq_true, Bool.not_false]
          · obtain ⟨hn, hw⟩ := wayErr_ok hwe
            have hpos := hF.pos
            have hmost := hF.most
            have hM0 : (0 : Int) ≤ maxD H p.Way ((H : Int) - 1) := (maxD_le H p.Way _ _).2 ⟨by omega, fun x hx => by have := (hw x hx).high; omega⟩
            obtain ⟨M, hM⟩ := Int.eq_ofNat_of_zero_le hM0
            have hso := sound_ok (kl := p.Keel) hF hz hk W.short (way := p.Way) (by omega) hwe
            have hLa : F_hull_Later (h, l, d, p) = some (ansP (firstS (sureK p.River p.Sides p.Way (wr (z.Deep.High + p.Keel))) (M + 1) 0)) := by
              simp only [F_hull_Later]
              have := later_loop hF hz hk W.short hw hn (by omega) hx hi hf hM.symm (M + 1) 0 p.Way (by omega) (by omega)
              rw [show (0 : Int) = ((0 : Nat) : Int) from rfl, this]
              rfl
            have hRe : F_thalwegref02_Later (z, p) = some (ansR (firstS (sureK p.River p.Sides p.Way (wr (z.Deep.High + p.Keel))) (M + 1) 0)) := by
              simp only [F_thalwegref02_Later]
              have := refLater_loop hF hw hn (by omega) hx hi (z := z) hM.symm (M + 1) 0 (by omega)
              rw [show (0 : Int) = ((0 : Nat) : Int) from rfl, this]
              rfl
            rw [Safe_ok hf hso, hLa]
            simp only [Option.bind_some]
            rw [hloop]
            simp only [Option.bind_some, hst p 0 hP, bne_self_eq_false, cond_false, F_thalwegref02_Fits, F_thalweglaw02_shallowest, refShallowest_eq hF (show p.Way.length ≤ 1000 by omega) hwe, beq_self_eq_true, Bool.not_true, hRe]
            cases firstS (sureK p.River p.Sides p.Way (wr (z.Deep.High + p.Keel))) (M + 1) 0 with
            | none => rfl
            | some j =>
              have hj : (j : Int) ≥ 0 := Int.natCast_nonneg j
              simp [ansR, ansP, hj]
end Go.Ev
/- The law HullSafes, by what is known of its arguments. -/
set_option linter.unusedVariables false
namespace Go.Ev
theorem safes_law {x : Tthalweglaw02_Loaded} {p : TPassage} (h1 : kTthalweglaw02_Loaded x) (h2 : kTPassage p) : F_thalweglaw02_HullSafes (x, p) = some true := by
  obtain ⟨h, l, d⟩ := x
  refine safes_true h1.1.2.1 fun y hy => ?_
  have a := (h2.2.2.1.2 y hy).2
  have b := a.1
  have c := a.2
  simp only [kIi64, IntKind.min, IntKind.max] at b c
  exact ⟨wr_in b.1 b.2, wr_in c.1 c.2⟩
end Go.Ev
