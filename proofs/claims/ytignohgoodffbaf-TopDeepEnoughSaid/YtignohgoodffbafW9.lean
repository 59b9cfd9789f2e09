/- A part of the proof of TopDeepEnough. -/
import Derived.Test.YtignohgoodffbafW8
/- Mathematics of earlier texts, as far as this text's functions go. -/
set_option linter.unusedVariables false
set_option linter.unusedSimpArgs false
namespace Go.Ev
noncomputable def L_thalwegref01_Of_1 (a0 : TRiver) : LoopD (Int × Int) (Int) (Unit) where
  step := fun s => match s with
    | (s1, s2) =>
      (idx? (a0.Reaches) (s2)).bind fun x5 =>
      bif (decide (s1 ≥ x5.Length)) then
        (idx? (a0.Reaches) (s2)).bind fun x6 =>
        some (.inl ((wr (s1 - x6.Length)), (wr (s2 + 1))))
      else
        some (.inr s2)
  at_ := fun s gh => match s, gh with
    | (s1, s2), () => ⟨[(1, (V.v (.int .i64 (s1)))), (2, (V.box 0 0)), (4, (V.v (.int .i64 (0)))), (5, (V.v (.int .i64 (s2))))], [(0, Bx.var [(V.sl (recs eTReach (a0.Reaches)) (a0.Reaches).length), (V.sl (recs eTShoal (a0.Shoals)) (a0.Shoals).length)] false)], 1⟩
noncomputable def F_thalwegref01_Of : (TRiver × Int) → Option (Int) := fun x => match x with
  | (a0, a1) =>
    (loopC (L_thalwegref01_Of_1 a0).step (a1, 0)).bind fun e => match e with
    | s7 =>
      some s7

set_option maxHeartbeats 1000000

theorem every_int {l : List Int} {p : Int → Option Bool} {q : Int → Bool} {g : FuncId} {caps : List V} (hp : ∀ x ∈ l, p x = some (q x)) (hl : l.length ≤ 4611686018427387904) : F_numbers_Every_int (l, p, g, caps) = some (l.all q) := by
  unfold F_numbers_Every_int
  simp only
  rw [show (0 : Int) = ((0 : Nat) : Int) from rfl, loop_list l (fun k => (k : Int)) q (e := .inl ()) (f := .inr false)]
  · cases l.all q <;> rfl
  · intro k hk
    simp only [L_numbers_Every_int_1, Int.ofNat_lt, hk, decide_true, cond_true, idx?_nat hk, Option.bind_some, hp _ (List.getElem_mem hk), wr_nat (show k < 9223372036854775807 by omega)]
    cases q l[k] <;> rfl
  · simp [L_numbers_Every_int_1]
theorem every_Reach {l : List TReach} {p : TReach → Option Bool} {q : TReach → Bool} {g : FuncId} {caps : List V} (hp : ∀ x ∈ l, p x = some (q x)) (hl : l.length ≤ 4611686018427387904) : F_numbers_Every_Reach (l, p, g, caps) = some (l.all q) := by
  unfold F_numbers_Every_Reach
  simp only
  rw [show (0 : Int) = ((0 : Nat) : Int) from rfl, loop_list l (fun k => (k : Int)) q (e := .inl ()) (f := .inr false)]
  · cases l.all q <;> rfl
  · intro k hk
    simp only [L_numbers_Every_Reach_1, Int.ofNat_lt, hk, decide_true, cond_true, idx?_nat hk, Option.bind_some, hp _ (List.getElem_mem hk), wr_nat (show k < 9223372036854775807 by omega)]
    cases q l[k] <;> rfl
  · simp [L_numbers_Every_Reach_1]
theorem every_RateRow {l : List TRateRow} {p : TRateRow → Option Bool} {q : TRateRow → Bool} {g : FuncId} {caps : List V} (hp : ∀ x ∈ l, p x = some (q x)) (hl : l.length ≤ 4611686018427387904) : F_numbers_Every_RateRow (l, p, g, caps) = some (l.all q) := by
  unfold F_numbers_Every_RateRow
  simp only
  rw [show (0 : Int) = ((0 : Nat) : Int) from rfl, loop_list l (fun k => (k : Int)) q (e := .inl ()) (f := .inr false)]
  · cases l.all q <;> rfl
  · intro k hk
    simp only [L_numbers_Every_RateRow_1, Int.ofNat_lt, hk, decide_true, cond_true, idx?_nat hk, Option.bind_some, hp _ (List.getElem_mem hk), wr_nat (show k < 9223372036854775807 by omega)]
    cases q l[k] <;> rfl
  · simp [L_numbers_Every_RateRow_1]
theorem every_Shoal {l : List TShoal} {p : TShoal → Option Bool} {q : TShoal → Bool} {g : FuncId} {caps : List V} (hp : ∀ x ∈ l, p x = some (q x)) (hl : l.length ≤ 4611686018427387904) : F_numbers_Every_Shoal (l, p, g, caps) = some (l.all q) := by
  unfold F_numbers_Every_Shoal
  simp only
  rw [show (0 : Int) = ((0 : Nat) : Int) from rfl, loop_list l (fun k => (k : Int)) q (e := .inl ()) (f := .inr false)]
  · cases l.all q <;> rfl
  · intro k hk
    simp only [L_numbers_Every_Shoal_1, Int.ofNat_lt, hk, decide_true, cond_true, idx?_nat hk, Option.bind_some, hp _ (List.getElem_mem hk), wr_nat (show k < 9223372036854775807 by omega)]
    cases q l[k] <;> rfl
  · simp [L_numbers_Every_Shoal_1]

theorem bif_and (a b : Bool) : (bif a then some b else some false) = some (a && b) := by cases a <;> rfl
theorem bif_not (a b : Bool) : (bif (!a) then some false else some b) = some (a && b) := by cases a <;> rfl

theorem within1_eq (n a b : Int) : F_numbers_Within_1 (n, a, b) = some (inB n a b) := by
  simp only [F_numbers_Within_1, bif_and, inB]
theorem within_eq (a b : Int) (l : List Int) (hl : l.length ≤ 4611686018427387904) : F_numbers_Within (a, b, l) = some (l.all fun n => inB n a b) := by
  simp only [F_numbers_Within]
  rw [every_int (q := fun n => inB n a b) (fun x _ => within1_eq x a b) hl]
  rfl
theorem within1 (a b n : Int) : F_numbers_Within (a, b, [n]) = some (inB n a b) := by rw [within_eq _ _ _ (by simp)]; simp
theorem within2 (a b n m : Int) : F_numbers_Within (a, b, [n, m]) = some (inB n a b && inB m a b) := by rw [within_eq _ _ _ (by simp)]; simp
def vB (b : TBounds) (x y : Int) : Bool := decide (b.Low ≤ b.High) && (inB b.Low x y && inB b.High x y)
theorem valid_eq (b : TBounds) (x y : Int) : F_numbers_Valid (b, x, y) = some (vB b x y) := by
  simp only [F_numbers_Valid, within2, Option.bind_some, bif_and, vB]
def rowOk (x : TRateRow) : Bool := inB x.Flow 0 10000000000 && inB x.Level 0 10000
def pairOk (p : TRateRow × TRateRow) : Bool := decide (p.1.Flow < p.2.Flow) && decide (p.1.Level ≤ p.2.Level)
def curveOk (l : List TRateRow) : Bool := inB l.length 2 30 && ((pairs l).all pairOk && l.all rowOk)
theorem vc2_eq (x : TRateRow) : F_river_validCurve_2 x = some (rowOk x) := by
  simp only [F_river_validCurve_2, within1, Option.bind_some, bif_and, rowOk]
theorem vc1_eq (a b : TRateRow) : F_river_validCurve_1 (a, b) = some (pairOk (a, b)) := by
  simp only [F_river_validCurve_1, bif_and, pairOk]
theorem validCurve_eq (l : List TRateRow) : F_river_validCurve l = some (curveOk l) := by
  unfold F_river_validCurve
  simp only [within1, Option.bind_some]
  cases hl : inB l.length 2 30 with
  | false => simp [curveOk, hl]
  | true =>
    rw [inB_iff] at hl
    simp only [Bool.not_true, cond_false]
    rw [show (1 : Int) = (((0 : Nat) + 1 : Nat) : Int) from rfl, loop_list (pairs l) (fun k => ((k + 1 : Nat) : Int)) pairOk (e := .inl ()) (f := .inr false)]
    · cases hp : (pairs l).all pairOk with
      | false => simp [curveOk, hp]
      | true =>
        simp only [if_true, Option.bind_some]
        rw [every_RateRow (q := rowOk) (fun x _ => vc2_eq x) (by omega)]
        simp [curveOk, hp, inB, hl]
    · intro k hk
      have hk' := hk
      rw [pairs_length] at hk'
      rw [pairs_get]
      simp only [L_river_validCurve_1, show decide (((k + 1 : Nat) : Int) < (l.length : Int)) = true by simp; omega, cond_true]
      rw [show wr (((k + 1 : Nat) : Int) - 1) = (k : Int) by rw [wr_in] <;> omega, idx?_nat (show k < l.length by omega), idx?_nat (show k + 1 < l.length by omega)]
      simp only [Option.bind_some, vc1_eq]
      rw [wr_nat (by omega)]
      cases pairOk (l[k], l[k + 1]) <;> rfl
    · simp only [L_river_validCurve_1, pairs_length]
      rw [show l.length - 1 + 1 = l.length by omega]
      simp
def reachOk (x : TReach) : Bool := inB x.Length 1 5000 && (inB x.Delay 0 200 && ((inB x.Weir 0 10000 && inB x.Flood 0 10000) && (vB x.Base 0 10000000000 && (vB x.Bottom 0 10000 && curveOk x.Curve))))
theorem validReach_eq (x : TReach) : F_river_validReach x = some (reachOk x) := by
  simp only [F_river_validReach, within1, within2, valid_eq, validCurve_eq, Option.bind_some, bif_and, reachOk]
set_option maxHeartbeats 1000000

theorem bif_not' (a : Bool) (x : Option Bool) : (bif (!a) then some false else x) = bif a then x else some false := by cases a <;> rfl
/-- What a reference asks of the rows of a curve, row by row. -/
def rowAt (l : List TRateRow) (k : Nat) : Bool := match l[k]? with
  | none => true
  | some x => rowOk x && (decide (k = 0) || match l[k - 1]? with
    | none => true
    | some y => pairOk (y, x))
theorem all_rows (l : List TRateRow) : (List.range l.length).all (rowAt l) = ((pairs l).all pairOk && l.all rowOk) := by
  rw [Bool.eq_iff_iff]
  simp only [List.all_eq_true, Bool.and_eq_true, List.mem_range]
  constructor
  · intro h
    refine ⟨fun p hp => ?_, fun x hx => ?_⟩
    · obtain ⟨k, hk, rfl⟩ := List.getElem_of_mem hp
      rw [pairs_get]
      have hk' := hk
      rw [pairs_length] at hk'
      have := h (k + 1) (by omega)
      unfold rowAt at this
      rw [List.getElem?_eq_getElem (show k + 1 < l.length by omega)] at this
      simp only [Nat.add_sub_cancel, List.getElem?_eq_getElem (show k < l.length by omega), Bool.and_eq_true, Bool.or_eq_true] at this
      rcases this.2 with h1 | h1
      · simp at h1
      · exact h1
    · obtain ⟨k, hk, rfl⟩ := List.getElem_of_mem hx
      have := h k hk
      unfold rowAt at this
      rw [List.getElem?_eq_getElem hk] at this
      simp only [Bool.and_eq_true] at this
      exact this.1
  · rintro ⟨h1, h2⟩ k hk
    unfold rowAt
    rw [List.getElem?_eq_getElem hk]
    simp only [Bool.and_eq_true, Bool.or_eq_true]
    refine ⟨h2 _ (List.getElem_mem hk), ?_⟩
    cases k with
    | zero => left; rfl
    | succ k =>
      right
      rw [Nat.add_sub_cancel, List.getElem?_eq_getElem (show k < l.length by omega)]
      have hp : k < (pairs l).length := by rw [pairs_length]; omega
      have := h1 _ (List.getElem_mem hp)
      rwa [pairs_get] at this

theorem loop_range {S E : Type} {step : S → Option (S ⊕ E)} (n : Nat) (st : Nat → S) (q : Nat → Bool) {e f : E} (h : ∀ k, k < n → step (st k) = some (if q k then .inl (st (k + 1)) else .inr f)) (he : step (st n) = some (.inr e)) :
    loopC step (st 0) = some (if (List.range n).all q then e else f) := by
  have := loop_list (List.range n) st q (e := e) (f := f) (step := step) (by intro k hk; simpa using h k (by simpa using hk)) (by simpa using he)
  exact this

set_option maxHeartbeats 1000000

theorem drop_cons {α : Type} {l m : List α} {k : Nat} {x : α} (h : l.drop k = x :: m) : ∃ hk : k < l.length, l[k] = x ∧ l.drop (k + 1) = m := by
  have hk : k < l.length := by
    rcases Nat.lt_or_ge k l.length with e | e
    · exact e
    · rw [List.drop_of_length_le e] at h; cases h
  rw [List.drop_eq_getElem_cons hk] at h
  cases h
  exact ⟨hk, rfl, rfl⟩
theorem drop_nil {α : Type} {l : List α} {k : Nat} (h : l.drop k = []) : l.length ≤ k := by
  have := congrArg List.length h
  simpa using Nat.le_of_sub_eq_zero (by simpa using this)

def tot : List TReach → Int
  | [] => 0
  | x :: m => x.Length + tot m
def findGo (place : Int) (sh : List TShoal) : List TReach → Int → Nat → Option Triver_site
  | [], _, _ => none
  | x :: m, e, k => if 0 ≤ place ∧ place < e + x.Length then some ⟨x, k, place, sh⟩ else findGo place sh m (e + x.Length) (k + 1)
theorem find_loop (r : TRiver) (place : Int) : ∀ (m : List TReach) (k : Nat) (e : Int), r.Reaches.drop k = m → (∀ x ∈ m, 0 ≤ x.Length ∧ x.Length ≤ 5000) → 0 ≤ e → e ≤ 5000 * k → k + m.length ≤ 1000000 →
    loopC (L_river_find_1 place r).step (e, (k : Int)) = some (match findGo place r.Shoals m e k with | some s => .inr (s, true) | none => .inl ())
  | [], k, e, h, _, _, _, _ => by
    have := drop_nil h
    rw [loopC_eq]
    simp [L_river_find_1, show ¬ k < r.Reaches.length by omega, findGo]
  | x :: m, k, e, h, hx, h0, h1, hk => by
    obtain ⟨hl, hg, hd⟩ := drop_cons h
    have hx0 := hx x (by simp)
    simp only [List.length_cons] at hk
    have hs : (L_river_find_1 place r).step (e, (k : Int)) = if 0 ≤ place ∧ place < e + x.Length then some (.inr (.inr (⟨x, k, place, r.Shoals⟩, true))) else some (.inl (e + x.Length, ((k + 1 : Nat) : Int))) := by
      simp only [L_river_find_1, Int.ofNat_lt, hl, decide_true, cond_true, idx?_nat hl, Option.bind_some, hg]
      rw [wr_in (n := e + x.Length) (by omega) (by omega), wr_nat (by omega)]
      by_cases c1 : 0 ≤ place
      · by_cases c2 : place < e + x.Length <;> simp [c1, c2]
      · simp [c1]
    have ih := find_loop r place m (k + 1) (e + x.Length) hd (fun y hy => hx y (by simp [hy])) (by omega) (by omega) (by omega)
    rw [loopC_eq, hs, findGo]
    by_cases c : 0 ≤ place ∧ place < e + x.Length
    · rw [if_pos c, if_pos c]
    · rw [if_neg c, if_neg c]; exact ih
def noSite : Triver_site := ⟨⟨0, 0, ⟨0, 0⟩, [], 0, ⟨0, 0⟩, 0⟩, 0, 0, []⟩
theorem find_eq {r : TRiver} {place : Int} (hr : ∀ x ∈ r.Reaches, 0 ≤ x.Length ∧ x.Length ≤ 5000) (hl : r.Reaches.length ≤ 1000) :
    F_river_find (r, place) = some (match findGo place r.Shoals r.Reaches 0 0 with | some s => (s, true) | none => (noSite, false)) := by
  unfold F_river_find
  simp only
  rw [show ((0 : Int), (0 : Int)) = ((0 : Int), ((0 : Nat) : Int)) from rfl, find_loop r place r.Reaches 0 0 rfl hr (by omega) (by omega) (by omega)]
  cases findGo place r.Shoals r.Reaches 0 0 with
  | none => rfl
  | some s => rfl
theorem tot_nonneg : ∀ {m : List TReach}, (∀ x ∈ m, 0 ≤ x.Length ∧ x.Length ≤ 5000) → 0 ≤ tot m
  | [], _ => by simp [tot]
  | x :: m, h => by
    have h0 := h x (by simp)
    have := tot_nonneg (m := m) fun y hy => h y (by simp [hy])
    rw [tot]
    omega
theorem findGo_some {place : Int} {sh : List TShoal} : ∀ {m : List TReach} {e : Int} {k : Nat}, (∀ x ∈ m, 0 ≤ x.Length ∧ x.Length ≤ 5000) → (0 ≤ place → e ≤ place) → ((findGo place sh m e k).isSome = true ↔ 0 ≤ place ∧ place < e + tot m)
  | [], e, k, _, h => by
    rw [findGo, tot]
    constructor
    · intro h; cases h
    · rintro ⟨h1, h2⟩; have := h h1; omega
  | x :: m, e, k, hx, h => by
    have hx0 := hx x (by simp)
    have ht := tot_nonneg fun y (hy : y ∈ m) => hx y (by simp [hy])
    rw [findGo, tot]
    by_cases c : 0 ≤ place ∧ place < e + x.Length
    · rw [if_pos c]
      exact ⟨fun _ => ⟨c.1, by omega⟩, fun _ => rfl⟩
    · rw [if_neg c, findGo_some (e := e + x.Length) (fun y hy => hx y (by simp [hy])) (by intro hp; have := h hp; omega), Int.add_assoc]

def shoalOk (r : TRiver) (s : TShoal) : Bool := inB s.Place 0 (tot r.Reaches - 1) && (inB s.Sounded (-400) 400 && (vB s.Bed 0 10000 && vB s.Grow (-500) 500))
theorem validShoal_eq {r : TRiver} {s : TShoal} (hr : ∀ x ∈ r.Reaches, 0 ≤ x.Length ∧ x.Length ≤ 5000) (hl : r.Reaches.length ≤ 1000) : F_river_validShoal (r, s) = some (shoalOk r s) := by
  have hf := findGo_some (place := s.Place) (sh := r.Shoals) (e := 0) (k := 0) hr (by omega)
  have hf : (findGo s.Place r.Shoals r.Reaches 0 0).isSome = inB s.Place 0 (tot r.Reaches - 1) := by
    rw [Bool.eq_iff_iff, hf, inB_iff]; omega
  simp only [F_river_validShoal, find_eq hr hl, Option.bind_some, within1, valid_eq, bif_and, shoalOk, ← hf]
  cases findGo s.Place r.Shoals r.Reaches 0 0 <;> rfl

theorem reachOk_len {x : TReach} (h : reachOk x = true) : 0 ≤ x.Length ∧ x.Length ≤ 5000 := by
  simp only [reachOk, Bool.and_eq_true, inB_iff] at h
  omega
def riverOk (r : TRiver) : Bool := inB r.Reaches.length 1 20 && (r.Reaches.all reachOk && (decide (r.Shoals.length ≤ 40) && r.Shoals.all (shoalOk r)))
theorem Check_eq (r : TRiver) : F_river_Check r = some (if riverOk r then 0 else 2) := by
  unfold F_river_Check
  simp only [within1, Option.bind_some]
  cases h1 : inB r.Reaches.length 1 20 with
  | false => simp [riverOk, h1]
  | true =>
    have hl := inB_iff.1 h1
    simp only [Bool.not_true, cond_false]
    rw [every_Reach (q := reachOk) (fun x _ => validReach_eq x) (by omega)]
    cases h2 : r.Reaches.all reachOk with
    | false => simp [riverOk, h1, h2]
    | true =>
      have hr : ∀ x ∈ r.Reaches, 0 ≤ x.Length ∧ x.Length ≤ 5000 := fun x hx => reachOk_len (List.all_eq_true.1 h2 x hx)
      simp only [Option.bind_some, Bool.not_true, cond_false]
      by_cases h3 : r.Shoals.length ≤ 40
      · rw [every_Shoal (q := shoalOk r) (fun x _ => by simp only [F_river_Check_1, validShoal_eq hr (by omega), Option.bind_some]) (by omega)]
        simp only [show decide ((r.Shoals.length : Int) > 40) = false by simp; omega, cond_false, Option.bind_some, riverOk, h1, h2, h3, decide_true, Bool.true_and]
        cases r.Shoals.all (shoalOk r) <;> rfl
      · simp only [show decide ((r.Shoals.length : Int) > 40) = true by simp; omega, cond_true, riverOk, h1, h2, h3, decide_false, Bool.true_and, Bool.false_and]
        rfl

theorem tot_bound : ∀ {m : List TReach}, (∀ x ∈ m, 0 ≤ x.Length ∧ x.Length ≤ 5000) → 0 ≤ tot m ∧ tot m ≤ 5000 * m.length
  | [], _ => by simp [tot]
  | x :: m, h => by
    have h0 := h x (by simp)
    have := tot_bound (m := m) fun y hy => h y (by simp [hy])
    simp only [tot, List.length_cons]
    omega
theorem four {α : Type} (a b c d : Bool) (x y : α) : (bif (!a) then some y else bif (!b) then some y else bif (!c) then some y else bif (!d) then some y else some x) = some (if (a && (c && (b && d))) = true then x else y) := by
  cases a <;> cases b <;> cases c <;> cases d <;> rfl
set_option maxHeartbeats 1000000

def largeOf (r : TRiver) : Bool := decide (r.Reaches.length > 25) || (decide (r.Shoals.length > 50) || !(r.Reaches.all fun x => decide (x.Curve.length ≤ 40)))
set_option maxHeartbeats 1000000

theorem tdiv_tmod {a b : Int} (hb : 0 < b) : b * a.tdiv b + a.tmod b = a ∧ -b < a.tmod b ∧ a.tmod b < b ∧ (0 ≤ a → 0 ≤ a.tmod b) ∧ (a ≤ 0 → a.tmod b ≤ 0) := by
  refine ⟨Int.mul_tdiv_add_tmod a b, ?_, ?_, ?_, ?_⟩
  · rcases Int.le_total 0 a with h | h
    · have := Int.tmod_nonneg b h; omega
    · have h1 := Int.tmod_nonneg b (a := -a) (by omega)
      have h2 := Int.tmod_lt_of_pos (-a) hb
      rw [Int.neg_tmod] at h1 h2; omega
  · exact Int.tmod_lt_of_pos a hb
  · exact fun h => Int.tmod_nonneg b h
  · intro h
    have h1 := Int.tmod_nonneg b (a := -a) (by omega)
    rw [Int.neg_tmod] at h1; omega
theorem tdiv_le {a b : Int} (hb : 0 < b) : -a.natAbs ≤ a.tdiv b ∧ a.tdiv b ≤ a.natAbs := by
  have h : (a.tdiv b).natAbs ≤ a.natAbs := by
    rw [Int.natAbs_tdiv]; exact Nat.div_le_self _ _
  omega
theorem div_of {a b q r : Int} (hb : 0 < b) (h : r + b * q = a) (h0 : 0 ≤ r) (h1 : r < b) : a / b = q := ((Int.ediv_emod_unique hb).2 ⟨h, h0, h1⟩).1

theorem Down_eq {a b : Int} (hb : 0 < b) (ha : a.natAbs ≤ 4611686018427387904) : F_numbers_Down (a, b) = some (a / b) := by
  obtain ⟨h1, h2, h3, h4, h5⟩ := tdiv_tmod (a := a) hb
  have h6 := tdiv_le (a := a) hb
  simp only [F_numbers_Down, nz_of (show b ≠ 0 by omega), Option.bind_some]
  rw [wr_in (n := a.tdiv b) (by omega) (by omega)]
  by_cases c : a.tmod b < 0
  · rw [wr_in (n := a.tdiv b - 1) (by omega) (by omega), div_of (q := a.tdiv b - 1) (r := a.tmod b + b) hb (by rw [Int.mul_sub]; omega) (by omega) (by omega)]
    simp [c]
  · rw [div_of (q := a.tdiv b) (r := a.tmod b) hb (by omega) (by omega) (by omega)]
    simp [c]
theorem div_bound {a b : Int} (hb : 0 < b) : -a.natAbs ≤ a / b ∧ a / b ≤ a.natAbs := by
  have := Int.natAbs_ediv_le_natAbs a b
  omega
theorem Up_eq {a b : Int} (hb : 0 < b) (ha : a.natAbs ≤ 4611686018427387904) : F_numbers_Up (a, b) = some (-((-a) / b)) := by
  have h := div_bound (a := -a) hb
  simp only [F_numbers_Up]
  rw [wr_in (n := 0 - a) (by omega) (by omega), show 0 - a = -a by omega, Down_eq hb (by omega)]
  simp only [Option.bind_some]
  rw [wr_in (by omega) (by omega)]
  simp
/-- The first row whose flow is not less. -/
def firstAt (l : List TRateRow) (n : Int) : Nat := l.findIdx fun x => decide (n ≤ x.Flow)
theorem first_lt {l : List TRateRow} {n : Int} {k : Nat} (h : k < firstAt l n) (hk : k < l.length) : l[k].Flow < n := by
  have := List.not_of_lt_findIdx h
  simp at this
  exact this
theorem first_at {l : List TRateRow} {n : Int} (h : firstAt l n < l.length) : n ≤ l[firstAt l n].Flow := by
  have := List.findIdx_getElem (p := fun x : TRateRow => decide (n ≤ x.Flow)) (xs := l) (w := h)
  exact of_decide_eq_true this
theorem first_le (l : List TRateRow) (n : Int) : firstAt l n ≤ l.length := List.findIdx_le_length
theorem index_eq {l : List TRateRow} {n : Int} {g : FuncId} {caps : List V} (hl : l.length ≤ 4611686018427387904) : F_slices_IndexFunc_L_RateRow_RateRow (l, (fun q => F_river_curveAt_1 (q, n)), g, caps) = some (if firstAt l n < l.length then (firstAt l n : Int) else -1) := by
  unfold F_slices_IndexFunc_L_RateRow_RateRow
  simp only
  have hle := first_le l n
  by_cases c : firstAt l n < l.length
  · rw [show (0 : Int) = ((0 : Nat) : Int) from rfl, loop_run (fun k : Nat => (k : Int)) (firstAt l n) (e := .inr (firstAt l n : Int))]
    · simp [c]
    · intro k hk
      have hkl : k < l.length := by omega
      have := first_lt hk hkl
      simp only [L_slices_IndexFunc_L_RateRow_RateRow_1, Int.ofNat_lt, hkl, decide_true, cond_true, idx?_nat hkl, Option.bind_some, F_river_curveAt_1, show decide (n ≤ l[k].Flow) = false by simp; omega, cond_false]
      rw [wr_nat (by omega)]
    · have := first_at c
      simp only [L_slices_IndexFunc_L_RateRow_RateRow_1, Int.ofNat_lt, c, decide_true, cond_true, idx?_nat c, Option.bind_some, F_river_curveAt_1, this]
  · rw [show (0 : Int) = ((0 : Nat) : Int) from rfl, loop_run (fun k : Nat => (k : Int)) l.length (e := .inl ())]
    · simp [c]
    · intro k hkl
      have := first_lt (n := n) (show k < firstAt l n by omega) hkl
      simp only [L_slices_IndexFunc_L_RateRow_RateRow_1, Int.ofNat_lt, hkl, decide_true, cond_true, idx?_nat hkl, Option.bind_some, F_river_curveAt_1, show decide (n ≤ l[k].Flow) = false by simp; omega, cond_false]
      rw [wr_nat (by omega)]
    · simp [L_slices_IndexFunc_L_RateRow_RateRow_1]

theorem flows_up {l : List TRateRow} (h : (pairs l).all pairOk = true) : ∀ {a b : Nat} (hab : a < b) (hb : b < l.length), l[a].Flow < l[b].Flow := by
  have one : ∀ a (ha : a + 1 < l.length), l[a].Flow < l[a + 1].Flow := by
    intro a ha
    have hp : a < (pairs l).length := by rw [pairs_length]; omega
    have := List.all_eq_true.1 h _ (List.getElem_mem hp)
    rw [pairs_get] at this
    simp only [pairOk, Bool.and_eq_true, decide_eq_true_eq] at this
    exact this.1
  intro a b hab hb
  induction b with
  | zero => omega
  | succ b ih =>
    have h1 := one b hb
    by_cases c : a = b
    · subst c; exact h1
    · have := ih (by omega) (by omega)
      omega
theorem levels_up {l : List TRateRow} (h : (pairs l).all pairOk = true) {a : Nat} (ha : a + 1 < l.length) : l[a].Level ≤ l[a + 1].Level := by
  have hp : a < (pairs l).length := by rw [pairs_length]; omega
  have := List.all_eq_true.1 h _ (List.getElem_mem hp)
  rw [pairs_get] at this
  simp only [pairOk, Bool.and_eq_true, decide_eq_true_eq] at this
  exact this.2
theorem row_in {l : List TRateRow} (h : l.all rowOk = true) {a : Nat} (ha : a < l.length) : 0 ≤ l[a].Flow ∧ l[a].Flow ≤ 10000000000 ∧ 0 ≤ l[a].Level ∧ l[a].Level ≤ 10000 := by
  have := List.all_eq_true.1 h _ (List.getElem_mem ha)
  simp only [rowOk, Bool.and_eq_true, inB_iff] at this
  omega

/-- The level at a flow, rounded down, or up. -/
def divB (up : Bool) (a b : Int) : Int := if up then -((-a) / b) else a / b
def levelOf (l : List TRateRow) (n : Int) (up : Bool) : Int :=
  let i := firstAt l n
  match l[i]?, l[i - 1]? with
  | some y, some x => if i = 0 then y.Level else x.Level + divB up ((y.Level - x.Level) * (n - x.Flow)) (y.Flow - x.Flow)
  | none, some x => x.Level
  | _, none => 0

theorem mul_small {a b : Int} (ha : 0 ≤ a) (ha' : a ≤ 10000) (hb : 0 ≤ b) (hb' : b ≤ 10000000000) : 0 ≤ a * b ∧ a * b ≤ 100000000000000 := by
  refine ⟨Int.mul_nonneg ha hb, ?_⟩
  have h1 : a * b ≤ 10000 * b := Int.mul_le_mul_of_nonneg_right ha' hb
  omega
theorem div_small {a b : Int} (hb : 0 < b) (h0 : 0 ≤ a) (h1 : a ≤ 100000000000000) (up : Bool) : -100000000000000 ≤ divB up a b ∧ divB up a b ≤ 100000000000000 := by
  unfold divB
  have h2 := div_bound (a := a) hb
  have h3 := div_bound (a := -a) hb
  split <;> omega
theorem div_exact {a b : Int} (hb : 0 < b) (up : Bool) : divB up (a * b) b = a := by
  unfold divB
  split
  · rw [← Int.neg_mul, Int.mul_ediv_cancel _ (by omega)]; omega
  · exact Int.mul_ediv_cancel _ (by omega)

theorem curveAt_eq {l : List TRateRow} {n : Int} {p : Int × Int → Option Int} {g : FuncId} {caps : List V} {up : Bool} (hc : curveOk l = true) (hp : ∀ a b : Int, 0 < b → a.natAbs ≤ 4611686018427387904 → p (a, b) = some (divB up a b)) : F_river_curveAt (l, n, p, g, caps) = some (levelOf l n up) := by
  simp only [curveOk, Bool.and_eq_true, inB_iff] at hc
  obtain ⟨hl, hps, hrs⟩ := hc
  have hle := first_le l n
  simp only [F_river_curveAt]
  rw [index_eq (by omega)]
  simp only [Option.bind_some]
  by_cases c : firstAt l n < l.length
  · rw [if_pos c]
    simp only [show decide ((firstAt l n : Int) < 0) = false by simp, cond_false]
    by_cases c0 : firstAt l n = 0
    · rw [c0]
      simp only [show (((0 : Nat) : Int) == 0) = true by decide, cond_true]
      rw [show (0 : Int) = ((0 : Nat) : Int) from rfl, idx?_nat (show 0 < l.length by omega)]
      simp [levelOf, c0, show 0 < l.length by omega]
    · simp only [show ((firstAt l n : Int) == 0) = false by simp; omega, cond_false]
      have ci : firstAt l n - 1 < l.length := by omega
      rw [wr_in (n := (firstAt l n : Int) - 1) (by omega) (by omega), show ((firstAt l n : Int) - 1) = ((firstAt l n - 1 : Nat) : Int) by omega, idx?_nat ci, idx?_nat c]
      simp only [Option.bind_some, levelOf, List.getElem?_eq_getElem c, List.getElem?_eq_getElem ci, c0, if_false]
      have r1 := row_in hrs ci
      have r2 := row_in hrs c
      have f1 := first_lt (n := n) (show firstAt l n - 1 < firstAt l n by omega) ci
      have f2 := first_at c
      have lv := levels_up hps (a := firstAt l n - 1) (by omega)
      simp only [show firstAt l n - 1 + 1 = firstAt l n by omega] at lv
      rw [wr_in (n := l[firstAt l n].Level - l[firstAt l n - 1].Level) (by omega) (by omega), wr_in (n := n - l[firstAt l n - 1].Flow) (by omega) (by omega), wr_in (n := l[firstAt l n].Flow - l[firstAt l n - 1].Flow) (by omega) (by omega)]
      have hm := mul_small (a := l[firstAt l n].Level - l[firstAt l n - 1].Level) (b := n - l[firstAt l n - 1].Flow) (by omega) (by omega) (by omega) (by omega)
      rw [wr_in (by omega) (by omega), hp _ _ (by omega) (by omega)]
      have hd := div_small (b := l[firstAt l n].Flow - l[firstAt l n - 1].Flow) (by omega) hm.1 hm.2 up
      simp only [Option.bind_some]
      rw [wr_in (by omega) (by omega)]
  · rw [if_neg c]
    have ce : firstAt l n = l.length := by omega
    have ci : l.length - 1 < l.length := by omega
    simp only [show decide ((-1 : Int) < 0) = true by decide, cond_true]
    rw [wr_in (by omega) (by omega), show ((l.length : Int) - 1) = ((l.length - 1 : Nat) : Int) by omega, idx?_nat ci]
    simp [levelOf, ce, ci]

set_option maxHeartbeats 1000000

def levB (x : TReach) (b : TBounds) : TBounds := ⟨minmax true (levelOf x.Curve b.Low false) x.Weir, minmax true (levelOf x.Curve b.High true) x.Weir⟩
theorem minmax_comm (a b : Int) : minmax true a b = minmax true b a := by
  simp only [minmax, if_true]
  split <;> split <;> omega
theorem levelAt_eq {x : TReach} {b : TBounds} (h : curveOk x.Curve = true) : F_river_levelAt (x, b) = some (levB x b) := by
  simp only [F_river_levelAt]
  rw [curveAt_eq (up := false) h (fun a b hb ha => by simpa [divB] using Down_eq hb ha), curveAt_eq (up := true) h (fun a b hb ha => by simpa [divB] using Up_eq hb ha)]
  rfl
theorem reachOk_curve {x : TReach} (h : reachOk x = true) : curveOk x.Curve = true := by
  simp only [reachOk, Bool.and_eq_true] at h
  exact h.2.2.2.2.2
set_option maxHeartbeats 1000000

theorem every_Bounds {l : List TBounds} {p : TBounds → Option Bool} {q : TBounds → Bool} {g : FuncId} {caps : List V} (hp : ∀ x ∈ l, p x = some (q x)) (hl : l.length ≤ 4611686018427387904) : F_numbers_Every_Bounds (l, p, g, caps) = some (l.all q) := by
  unfold F_numbers_Every_Bounds
  simp only
  rw [show (0 : Int) = ((0 : Nat) : Int) from rfl, loop_list l (fun k => (k : Int)) q (e := .inl ()) (f := .inr false)]
  · cases l.all q <;> rfl
  · intro k hk
    simp only [L_numbers_Every_Bounds_1, Int.ofNat_lt, hk, decide_true, cond_true, idx?_nat hk, Option.bind_some, hp _ (List.getElem_mem hk), wr_nat (show k < 9223372036854775807 by omega)]
    cases q l[k] <;> rfl
  · simp [L_numbers_Every_Bounds_1]
theorem every_LBounds {l : List (List TBounds)} {p : List TBounds → Option Bool} {q : List TBounds → Bool} {g : FuncId} {caps : List V} (hp : ∀ x ∈ l, p x = some (q x)) (hl : l.length ≤ 4611686018427387904) : F_numbers_Every_L_Bounds (l, p, g, caps) = some (l.all q) := by
  unfold F_numbers_Every_L_Bounds
  simp only
  rw [show (0 : Int) = ((0 : Nat) : Int) from rfl, loop_list l (fun k => (k : Int)) q (e := .inl ()) (f := .inr false)]
  · cases l.all q <;> rfl
  · intro k hk
    simp only [L_numbers_Every_L_Bounds_1, Int.ofNat_lt, hk, decide_true, cond_true, idx?_nat hk, Option.bind_some, hp _ (List.getElem_mem hk), wr_nat (show k < 9223372036854775807 by omega)]
    cases q l[k] <;> rfl
  · simp [L_numbers_Every_L_Bounds_1]

def sideOk (l : List TBounds) : Bool := l.all fun b => vB b 0 10000000000
/-- The error of a forecast for a valid river. -/
def fcErr (r : TRiver) (sides : List (List TBounds)) : Int :=
  if sides.length ≠ r.Reaches.length then 4 else
  match sides with
  | [] => 4
  | s :: _ => if s.length = 0 then 4 else if !(sides.all fun x => decide (x.length = s.length)) then 4 else if s.length > 400 then 5 else if !(sides.all sideOk) then 2 else 0
def startErr (r : TRiver) (sides : List (List TBounds)) : Int := if riverOk r then fcErr r sides else 2

theorem len_beq {a b : Nat} : (((a : Int) == (b : Int)) : Bool) = decide (a = b) := by
  rw [Bool.eq_iff_iff]; simp; omega
theorem len_bne {a b : Nat} : (((a : Int) != (b : Int)) : Bool) = !decide (a = b) := by
  rw [bne, len_beq]
theorem checkForecast_eq {r : TRiver} {sides : List (List TBounds)} (hr : riverOk r = true) (hs : ∀ x ∈ sides, x.length ≤ 1000000) : F_river_checkForecast (r, sides) = some (fcErr r sides) := by
  have hl : 1 ≤ r.Reaches.length ∧ r.Reaches.length ≤ 20 := by
    simp only [riverOk, Bool.and_eq_true, inB_iff] at hr
    omega
  simp only [F_river_checkForecast, len_bne]
  by_cases h1 : sides.length = r.Reaches.length
  · simp only [h1, decide_true, Bool.not_true, cond_false, fcErr]
    cases sides with
    | nil => simp only [List.length_nil] at h1; omega
    | cons s m =>
      simp only [List.length_cons] at h1
      rw [show (0 : Int) = ((0 : Nat) : Int) from rfl, idx?_nat (show 0 < (s :: m).length by simp)]
      simp only [Option.bind_some, List.getElem_cons_zero, len_beq]
      by_cases h2 : s.length = 0
      · simp [h2, h1]
      · simp only [h2, decide_false, cond_false]
        rw [every_LBounds (q := fun x => decide (x.length = s.length)) (fun x _ => by simp only [F_river_checkForecast_1, len_beq]) (by simp; omega)]
        simp only [Option.bind_some]
        cases h3 : (s :: m).all fun x => decide (x.length = s.length) with
        | false => simp [h1, h2, h3]
        | true =>
          simp only [Bool.not_true, cond_false]
          by_cases h4 : s.length > 400
          · simp [h1, h2, h3, h4, show ((s.length : Int) > 400) by omega]
          · simp only [show decide ((s.length : Int) > 400) = false by simp; omega, cond_false]
            rw [every_LBounds (q := sideOk) (fun x hx => by
              simp only [F_river_checkForecast_3]
              rw [every_Bounds (q := fun b => vB b 0 10000000000) (fun b _ => by simp only [F_river_checkForecast_2, valid_eq, Option.bind_some]) (by have := hs x hx; omega)]
              rfl) (by simp; omega)]
            simp only [Option.bind_some]
            cases h5 : (s :: m).all sideOk <;> simp [h1, h2, h3, h4, h5]
  · simp [h1, fcErr]

set_option maxHeartbeats 1000000

def addB (a b : TBounds) : TBounds := ⟨a.Low + b.Low, a.High + b.High⟩
def sumB : List TBounds → TBounds
  | [] => ⟨0, 0⟩
  | a :: l => addB a (sumB l)
/-- Bounds from 0 to a number. -/
def upTo (n : Int) (b : TBounds) : Prop := 0 ≤ b.Low ∧ b.Low ≤ b.High ∧ b.High ≤ n
theorem sum_bound {n : Int} (hn : 0 ≤ n) : ∀ {l : List TBounds}, (∀ b ∈ l, upTo n b) → upTo (n * l.length) (sumB l)
  | [], _ => by simp [upTo, sumB]
  | a :: l, h => by
    obtain ⟨a1, a2, a3⟩ := h a (by simp)
    obtain ⟨b1, b2, b3⟩ := sum_bound hn (l := l) fun b hb => h b (by simp [hb])
    simp only [upTo, sumB, addB, List.length_cons] at *
    have e : n * ((l.length + 1 : Nat) : Int) = n * (l.length : Int) + n := by rw [Int.natCast_add, Int.mul_add]; simp
    rw [e]
    omega
theorem sum_loop (l : List TBounds) {n : Int} (hn : 0 ≤ n) (hn' : n ≤ 1000000000000) (hl : l.length ≤ 100000) : ∀ (m : List TBounds) (k : Nat) (a b : Int), l.drop k = m → (∀ x ∈ m, upTo n x) → 0 ≤ a → a ≤ n * k → 0 ≤ b → b ≤ n * k →
    loopC (L_numbers_Sum_1 l).step ((k : Int), a, b) = some (a + (sumB m).Low, b + (sumB m).High)
  | [], k, a, b, h, _, _, _, _, _ => by
    have := drop_nil h
    rw [loopC_eq]
    simp [L_numbers_Sum_1, show ¬ k < l.length by omega, sumB]
  | x :: m, k, a, b, h, hx, ha, ha', hb, hb' => by
    obtain ⟨hk, hg, hd⟩ := drop_cons h
    obtain ⟨x1, x2, x3⟩ := hx x (by simp)
    have hnk : n * (k : Int) ≤ 1000000000000 * 100000 := by
      have h1 : n * (k : Int) ≤ 1000000000000 * (k : Int) := Int.mul_le_mul_of_nonneg_right hn' (by omega)
      omega
    have e : n * ((k + 1 : Nat) : Int) = n * (k : Int) + n := by rw [Int.natCast_add, Int.mul_add]; simp
    have hs : (L_numbers_Sum_1 l).step ((k : Int), a, b) = some (.inl (((k + 1 : Nat) : Int), a + x.Low, b + x.High)) := by
      simp only [L_numbers_Sum_1, Int.ofNat_lt, hk, decide_true, cond_true, idx?_nat hk, Option.bind_some, hg]
      rw [wr_nat (by omega), wr_in (n := a + x.Low) (by omega) (by omega), wr_in (n := b + x.High) (by omega) (by omega)]
    rw [loopC_eq, hs]
    simp only
    rw [sum_loop l hn hn' hl m (k + 1) (a + x.Low) (b + x.High) hd (fun y hy => hx y (by simp [hy])) (by omega) (by omega) (by omega) (by omega)]
    simp only [sumB, addB]
    rw [Int.add_assoc, Int.add_assoc]
theorem Sum_eq {l : List TBounds} {n : Int} (hn : 0 ≤ n) (hn' : n ≤ 1000000000000) (hl : l.length ≤ 100000) (hx : ∀ x ∈ l, upTo n x) : F_numbers_Sum l = some (sumB l) := by
  unfold F_numbers_Sum
  simp only
  rw [show ((0 : Int), (0 : Int), (0 : Int)) = (((0 : Nat) : Int), (0 : Int), (0 : Int)) from rfl, sum_loop l hn hn' hl l 0 0 0 rfl hx (by omega) (by simp) (by omega) (by simp)]
  simp

def noReach : TReach := ⟨0, 0, ⟨0, 0⟩, [], 0, ⟨0, 0⟩, 0⟩
def reachAt (r : TRiver) (i : Nat) : TReach := r.Reaches[i]?.getD noReach
def getB (l : List (List TBounds)) (i k : Nat) : TBounds := (l[i]?.getD [])[k]?.getD ⟨0, 0⟩
/-- The flow of a reach in an hour. -/
def flowAt (r : TRiver) (sides : List (List TBounds)) : Nat → Int → TBounds
  | 0, h => if h < 0 then (reachAt r 0).Base else getB sides 0 h.toNat
  | i + 1, h => if h < 0 then (reachAt r (i + 1)).Base else addB (getB sides (i + 1) h.toNat) (flowAt r sides i (h - (reachAt r i).Delay))

/-- A valid river and a forecast for it. -/
structure FcOk (r : TRiver) (sides : List (List TBounds)) (H : Nat) : Prop where
  river : riverOk r = true
  len : sides.length = r.Reaches.length
  pos : 1 ≤ H
  most : H ≤ 400
  hours : ∀ s ∈ sides, s.length = H
  valid : ∀ s ∈ sides, ∀ b ∈ s, upTo 10000000000 b
theorem fcOk_of {r : TRiver} {sides : List (List TBounds)} (h : startErr r sides = 0) : ∃ H, FcOk r sides H := by
  unfold startErr at h
  split at h
  · next hr =>
    unfold fcErr at h
    split at h
    · cases h
    · next hl =>
      split at h
      · cases h
      · next s m =>
        split at h
        · cases h
        · next h0 =>
          split at h
          · cases h
          · next h1 =>
            split at h
            · cases h
            · next h2 =>
              split at h
              · cases h
              · next h3 =>
                simp only [Bool.not_eq_true', Bool.not_eq_false, List.all_eq_true, decide_eq_true_eq] at h1 h3
                refine ⟨s.length, hr, by omega, by omega, by omega, h1, fun x hx b hb => ?_⟩
                have := List.all_eq_true.1 (h3 x hx) b hb
                simp only [vB, inB, Bool.and_eq_true, decide_eq_true_eq] at this
                unfold upTo
                omega
  · cases h
theorem FcOk.bounds {r : TRiver} {sides : List (List TBounds)} {H : Nat} (h : FcOk r sides H) : 1 ≤ r.Reaches.length ∧ r.Reaches.length ≤ 20 ∧ ∀ i, i < r.Reaches.length → reachOk (reachAt r i) = true := by
  have hr := h.river
  simp only [riverOk, Bool.and_eq_true, inB_iff, List.all_eq_true] at hr
  refine ⟨by omega, by omega, fun i hi => ?_⟩
  rw [reachAt, List.getElem?_eq_getElem hi]
  exact hr.2.1 _ (List.getElem_mem hi)
theorem reach_of {x : TReach} (h : reachOk x = true) : 0 ≤ x.Delay ∧ x.Delay ≤ 200 ∧ upTo 10000000000 x.Base := by
  simp only [reachOk, Bool.and_eq_true, inB_iff, vB, decide_eq_true_eq] at h
  unfold upTo
  omega
theorem FcOk.getB_upTo {r : TRiver} {sides : List (List TBounds)} {H : Nat} (h : FcOk r sides H) (i k : Nat) : upTo 10000000000 (getB sides i k) := by
  unfold getB
  cases hi : sides[i]? with
  | none => simp [upTo]
  | some s =>
    cases hk : s[k]? with
    | none => simp [upTo, hk]
    | some b =>
      simp only [Option.getD_some, hk]
      exact h.valid s (List.mem_of_getElem? hi) b (List.mem_of_getElem? hk)
theorem FcOk.flow_upTo {r : TRiver} {sides : List (List TBounds)} {H : Nat} (h : FcOk r sides H) : ∀ (i : Nat) (k : Int), i < r.Reaches.length → upTo (10000000000 * ((i : Int) + 1)) (flowAt r sides i k)
  | 0, k, hi => by
    have h1 := reach_of (h.bounds.2.2 0 hi)
    have h2 := h.getB_upTo 0 k.toNat
    unfold flowAt
    split
    · exact h1.2.2
    · exact h2
  | i + 1, k, hi => by
    have h1 := reach_of (h.bounds.2.2 (i + 1) hi)
    obtain ⟨a1, a2, a3⟩ := h.getB_upTo (i + 1) k.toNat
    obtain ⟨b1, b2, b3⟩ := h.flow_upTo i (k - (reachAt r i).Delay) (by omega)
    obtain ⟨_, _, c1, c2, c3⟩ := h1
    rw [flowAt]
    split
    · unfold upTo; refine ⟨c1, c2, ?_⟩; simp only [Int.natCast_add]; omega
    · simp only [upTo, addB, Int.natCast_add]; omega

theorem getB_eq {sides : List (List TBounds)} {i k : Nat} (hi : i < sides.length) (hk : k < sides[i].length) : getB sides i k = sides[i][k] := by
  simp [getB, hi, hk]
theorem reachAt_eq {r : TRiver} {i : Nat} (hi : i < r.Reaches.length) : r.Reaches[i] = reachAt r i := by simp [reachAt, hi]

theorem flow_add {r : TRiver} {sides : List (List TBounds)} {H : Nat} (h : FcOk r sides H) {i : Nat} (hi : i + 1 < r.Reaches.length) (k : Nat) (j : Int) :
    (⟨wr ((getB sides (i + 1) k).Low + (flowAt r sides i j).Low), wr ((getB sides (i + 1) k).High + (flowAt r sides i j).High)⟩ : TBounds) = addB (getB sides (i + 1) k) (flowAt r sides i j) := by
  obtain ⟨a1, a2, a3⟩ := h.getB_upTo (i + 1) k
  obtain ⟨b1, b2, b3⟩ := h.flow_upTo i j (by omega)
  have := h.bounds
  rw [wr_in (by omega) (by omega), wr_in (by omega) (by omega)]
  rfl
set_option maxHeartbeats 1000000

def rowOf (r : TRiver) (sides : List (List TBounds)) (H i : Nat) : List TBounds := (List.range H).map fun (k : Nat) => flowAt r sides i (k : Int)
def flowsTo (r : TRiver) (sides : List (List TBounds)) (H n : Nat) : List (List TBounds) := (List.range n).map fun i => rowOf r sides H i
theorem rowOf_length (r : TRiver) (sides : List (List TBounds)) (H i : Nat) : (rowOf r sides H i).length = H := by simp [rowOf]
theorem rowOf_get (r : TRiver) (sides : List (List TBounds)) (H i k : Nat) (h : k < (rowOf r sides H i).length) : (rowOf r sides H i)[k] = flowAt r sides i (k : Int) := by simp [rowOf]
theorem flowsTo_length (r : TRiver) (sides : List (List TBounds)) (H n : Nat) : (flowsTo r sides H n).length = n := by simp [flowsTo]
theorem flowsTo_get (r : TRiver) (sides : List (List TBounds)) (H n i : Nat) (h : i < (flowsTo r sides H n).length) : (flowsTo r sides H n)[i] = rowOf r sides H i := by simp [flowsTo]
theorem flowsTo_succ (r : TRiver) (sides : List (List TBounds)) (H n : Nat) : flowsTo r sides H (n + 1) = flowsTo r sides H n ++ [rowOf r sides H n] := by simp [flowsTo, List.range_succ]

theorem fill_set {α : Type} (row : List α) (z : α) (k : Nat) (h : k < row.length) : (row.take k ++ List.replicate (row.length - k) z).set k row[k] = row.take (k + 1) ++ List.replicate (row.length - (k + 1)) z := by
  have e : row.length - k = (row.length - (k + 1)) + 1 := by omega
  rw [e, List.replicate_succ, List.set_append_right _ _ (by simp; omega), List.take_succ_eq_append_getElem h]
  have hm : min k row.length = k := Nat.min_eq_left (Nat.le_of_lt h)
  simp only [List.length_take, hm, Nat.sub_self, List.set_cons_zero, List.append_assoc, List.cons_append, List.nil_append]
theorem set?_of {α : Type} {l : List α} {j : Nat} {x : α} (h : j < l.length) : set? l (j : Int) x = some (l.set j x) := by
  unfold set?
  rw [if_pos (by omega)]
  simp

/-- What comes into a reach. -/
def inOf (r : TRiver) (sides : List (List TBounds)) : Nat → Nat → TBounds
  | 0, _ => ⟨0, 0⟩
  | i + 1, k => flowAt r sides i ((k : Int) - (reachAt r i).Delay)
theorem inflow_eq {r : TRiver} {sides : List (List TBounds)} {H : Nat} (h : FcOk r sides H) {i k n : Nat} (hi : i < r.Reaches.length) (hk : k < H) (hn : i ≤ n) :
    F_river_stream_inflow (⟨r, flowsTo r sides H n⟩, (i : Int), (k : Int)) = some (inOf r sides i k) := by
  simp only [F_river_stream_inflow]
  cases i with
  | zero => simp [inOf]
  | succ i =>
    simp only [inOf]
    have hd := reach_of (h.bounds.2.2 i (by omega))
    have hb := h.bounds
    have hm := h.most
    simp only [show ((((i + 1 : Nat) : Int) == 0) : Bool) = false by simp; omega, cond_false]
    rw [show wr (((i + 1 : Nat) : Int) - 1) = (i : Int) by rw [wr_in] <;> omega, idx?_nat (show i < r.Reaches.length by omega)]
    simp only [Option.bind_some, reachAt_eq (show i < r.Reaches.length by omega)]
    by_cases c : (k : Int) < (reachAt r i).Delay
    · simp only [c, decide_true, cond_true, Option.some.injEq]
      cases i <;> rw [flowAt, if_pos (by omega)]
    · simp only [c, decide_false, cond_false]
      rw [idx?_nat (show i < (flowsTo r sides H n).length by rw [flowsTo_length]; omega)]
      simp only [Option.bind_some, flowsTo_get]
      rw [wr_in (n := (k : Int) - (reachAt r i).Delay) (by omega) (by omega)]
      have e : (k : Int) - (reachAt r i).Delay = (((k : Int) - (reachAt r i).Delay).toNat : Int) := by omega
      have hx : idx? (rowOf r sides H i) (((k : Int) - (reachAt r i).Delay).toNat : Int) = some (flowAt r sides i ((k : Int) - (reachAt r i).Delay)) := by
        rw [idx?_nat (by rw [rowOf_length]; omega), rowOf_get, ← e]
      rw [(congrArg (idx? (rowOf r sides H i)) e).trans hx]
      rfl

theorem Sum2_eq {r : TRiver} {sides : List (List TBounds)} {H : Nat} (h : FcOk r sides H) {i k : Nat} (hi : i < r.Reaches.length) :
    F_numbers_Sum [getB sides i k, inOf r sides i k] = some (flowAt r sides i (k : Int)) := by
  obtain ⟨hb1, hb2, _⟩ := h.bounds
  rw [Sum_eq (n := 1000000000000) (by omega) (by omega) (by simp)]
  · simp only [sumB, addB]
    cases i with
    | zero => rw [flowAt, if_neg (by omega)]; simp [inOf]
    | succ i => rw [flowAt, if_neg (by omega)]; simp [inOf, addB]
  · intro x hx
    simp only [List.mem_cons, List.not_mem_nil, or_false] at hx
    rcases hx with rfl | rfl
    · obtain ⟨a1, a2, a3⟩ := h.getB_upTo i k
      exact ⟨a1, a2, by omega⟩
    · cases i with
      | zero => simp [upTo, inOf]
      | succ i =>
        rw [inOf]
        obtain ⟨a1, a2, a3⟩ := h.flow_upTo i ((k : Int) - (reachAt r i).Delay) (by omega)
        exact ⟨a1, a2, by omega⟩

theorem run_eq {r : TRiver} {sides : List (List TBounds)} {H : Nat} (h : FcOk r sides H) (hz : startErr r sides = 0) (hs : ∀ x ∈ sides, x.length ≤ 1000000) : F_river_run (r, sides) = some (⟨r, flowsTo r sides H sides.length⟩, 0) := by
  have hb := h.bounds
  have hm := h.most
  have hfc : fcErr r sides = 0 := by simpa [startErr, h.river] using hz
  simp only [F_river_run, Check_eq, h.river, if_true, Option.bind_some, checkForecast_eq h.river hs, hfc, bne_self_eq_false, cond_false]
  rw [show ((0 : Int), ([] : List (List TBounds))) = (fun i : Nat => ((i : Int), flowsTo r sides H i)) 0 from rfl, loop_run (fun i : Nat => ((i : Int), flowsTo r sides H i)) sides.length (e := flowsTo r sides H sides.length)]
  · rfl
  · intro i hi
    have hir : i < r.Reaches.length := by rw [← h.len]; exact hi
    have hsi := h.hours _ (List.getElem_mem hi)
    simp only [L_river_run_2, Int.ofNat_lt, hi, decide_true, cond_true, idx?_nat hi, Option.bind_some]
    have hmk : mk? (⟨0, 0⟩ : TBounds) ((sides[i].length : Nat) : Int) 16 = some (List.replicate H ⟨0, 0⟩) := by
      unfold mk?
      rw [if_pos (by omega), hsi]
      rfl
    rw [hmk]
    simp only [Option.bind_some]
    have hrl := rowOf_length r sides H i
    rw [show ((0 : Int), List.replicate H (⟨0, 0⟩ : TBounds)) = (fun k : Nat => ((k : Int), (rowOf r sides H i).take k ++ List.replicate ((rowOf r sides H i).length - k) (⟨0, 0⟩ : TBounds))) 0 from by simp [hrl],
      loop_run (fun k : Nat => ((k : Int), (rowOf r sides H i).take k ++ List.replicate ((rowOf r sides H i).length - k) (⟨0, 0⟩ : TBounds))) H (e := rowOf r sides H i)]
    · simp only [Option.bind_some]
      rw [app_of (by rw [flowsTo_length]; simp; omega) (by decide), wr_nat (by omega), flowsTo_succ]
      rfl
    · intro k hk
      simp only [L_river_run_1, hsi, Int.ofNat_lt, hk, decide_true, cond_true, idx?_nat (show k < sides[i].length by omega), Option.bind_some, inflow_eq h hir hk (Nat.le_refl i)]
      rw [← getB_eq hi (show k < sides[i].length by omega), Sum2_eq h hir]
      simp only [Option.bind_some]
      have hlen : k < ((rowOf r sides H i).take k ++ List.replicate ((rowOf r sides H i).length - k) (⟨0, 0⟩ : TBounds)).length := by simp [hrl]; omega
      rw [idx?_nat hlen]
      simp only [Option.bind_some]
      rw [set?_of hlen, wr_nat (by omega)]
      have hkr : k < (rowOf r sides H i).length := by omega
      have := fill_set (rowOf r sides H i) ⟨0, 0⟩ k hkr
      rw [rowOf_get] at this
      rw [this]
      rfl
    · simp only [L_river_run_1, hsi]
      simp [hrl, List.take_of_length_le]
  · simp [L_river_run_2]
theorem run_err {r : TRiver} {sides : List (List TBounds)} (hz : startErr r sides ≠ 0) (hs : ∀ x ∈ sides, x.length ≤ 1000000) : F_river_run (r, sides) = some (⟨⟨[], []⟩, []⟩, startErr r sides) := by
  simp only [F_river_run, Check_eq, Option.bind_some]
  unfold startErr at hz ⊢
  cases hr : riverOk r with
  | false => rfl
  | true =>
    rw [hr] at hz
    simp only [if_true] at hz
    simp only [if_true, bne_self_eq_false, cond_false, checkForecast_eq hr hs, Option.bind_some, show (fcErr r sides != 0) = true by simpa using hz, cond_true]
set_option maxHeartbeats 1000000

def largeF (r : TRiver) (s : List (List TBounds)) : Bool := decide (r.Reaches.length > 25) || (decide (r.Shoals.length > 50) || (decide (s.length > 25) || (!(r.Reaches.all fun x => decide (x.Curve.length ≤ 40)) || !(s.all fun x => decide (x.length ≤ 450)))))
/-- What flows by in the hours from j to before k. -/
def volOf (r : TRiver) (s : List (List TBounds)) (H i j k : Nat) : TBounds := sumB (((rowOf r s H i).drop j).take (k - j))
theorem slc?_nat {α : Type} {l : List α} {j k : Nat} (h : j ≤ k) (h' : k ≤ l.length) : slc? l (j : Int) (k : Int) = some ((l.drop j).take (k - j)) := by
  unfold slc?
  rw [if_pos (by omega)]
  simp
theorem row_upTo {r : TRiver} {s : List (List TBounds)} {H : Nat} (h : FcOk r s H) {i : Nat} (hi : i < r.Reaches.length) : ∀ x ∈ rowOf r s H i, upTo 210000000000 x := by
  intro x hx
  simp only [rowOf, List.mem_map] at hx
  obtain ⟨k, _, rfl⟩ := hx
  obtain ⟨a1, a2, a3⟩ := h.flow_upTo i k hi
  have := h.bounds.2.1
  exact ⟨a1, a2, by omega⟩

theorem sumB_snoc : ∀ (l : List TBounds) (x : TBounds), sumB (l ++ [x]) = addB (sumB l) x
  | [], x => by simp [sumB, addB]
  | a :: l, x => by simp only [List.cons_append, sumB, sumB_snoc l x, addB, Int.add_assoc]
set_option maxHeartbeats 1000000

theorem of_loop (r : TRiver) (place : Int) (sh : List TShoal) : ∀ (m : List TReach) (k : Nat) (e : Int), r.Reaches.drop k = m → (∀ x ∈ m, 0 ≤ x.Length ∧ x.Length ≤ 5000) → 0 ≤ e → e ≤ place → place < e + tot m → place ≤ 1000000000 → k + m.length ≤ 1000000 →
    ∃ (j : Nat) (hj : j < r.Reaches.length), loopC (L_thalwegref01_Of_1 r).step (place - e, (k : Int)) = some (j : Int) ∧ findGo place sh m e k = some ⟨r.Reaches[j], (j : Int), place, sh⟩
  | [], k, e, h, _, _, h1, h2, _, _ => by rw [tot] at h2; omega
  | x :: m, k, e, h, hx, h0, h1, h2, h3, hk => by
    obtain ⟨hl, hg, hd⟩ := drop_cons h
    have hx0 := hx x (by simp)
    simp only [List.length_cons] at hk
    rw [tot] at h2
    by_cases c : place < e + x.Length
    · refine ⟨k, hl, ?_, ?_⟩
      · rw [loopC_eq]
        simp only [L_thalwegref01_Of_1, idx?_nat hl, Option.bind_some, hg, show decide (place - e ≥ x.Length) = false by simp; omega, cond_false]
      · rw [findGo, if_pos ⟨by omega, c⟩, hg]
    · obtain ⟨j, hj, a1, a2⟩ := of_loop r place sh m (k + 1) (e + x.Length) hd (fun y hy => hx y (by simp [hy])) (by omega) (by omega) (by omega) h3 (by omega)
      refine ⟨j, hj, ?_, ?_⟩
      · have hs : (L_thalwegref01_Of_1 r).step (place - e, (k : Int)) = some (.inl (place - (e + x.Length), ((k + 1 : Nat) : Int))) := by
          simp only [L_thalwegref01_Of_1, idx?_nat hl, Option.bind_some, hg, show decide (place - e ≥ x.Length) = true by simp; omega, cond_true]
          rw [wr_nat (by omega), wr_in (by omega) (by omega), show place - e - x.Length = place - (e + x.Length) by omega]
        rw [loopC_eq, hs]
        exact a1
      · rw [findGo, if_neg (by omega)]
        exact a2
theorem Of_eq {r : TRiver} {place : Int} (hr : ∀ x ∈ r.Reaches, 0 ≤ x.Length ∧ x.Length ≤ 5000) (hl : r.Reaches.length ≤ 1000) (h0 : 0 ≤ place) (h1 : place < tot r.Reaches) :
    ∃ (j : Nat) (hj : j < r.Reaches.length), F_thalwegref01_Of (r, place) = some (j : Int) ∧ F_river_find (r, place) = some (⟨r.Reaches[j], (j : Int), place, r.Shoals⟩, true) := by
  have hb := tot_bound hr
  obtain ⟨j, hj, a1, a2⟩ := of_loop r place r.Shoals r.Reaches 0 0 rfl hr (by omega) h0 (by omega) (by omega) (by omega)
  refine ⟨j, hj, ?_, ?_⟩
  · unfold F_thalwegref01_Of
    simp only
    rw [show (place, (0 : Int)) = (place - 0, ((0 : Nat) : Int)) by simp, a1]
    rfl
  · rw [find_eq hr hl, a2]

theorem fourC {α : Type} (a b c d : Bool) (x y : α) : (bif (!a) then some y else bif (!b) then some y else bif (!c) then some y else bif (!d) then some y else some x) = some (if (a && (b && (c && d))) = true then x else y) := by
  cases a <;> cases b <;> cases c <;> cases d <;> rfl
theorem find_in {r : TRiver} {place : Int} (hr : ∀ x ∈ r.Reaches, 0 ≤ x.Length ∧ x.Length ≤ 5000) (hl : r.Reaches.length ≤ 1000) : ∃ s, F_river_find (r, place) = some (s, inB place 0 (tot r.Reaches - 1)) := by
  have hf := findGo_some (place := place) (sh := r.Shoals) (e := 0) (k := 0) hr (by omega)
  have hf : (findGo place r.Shoals r.Reaches 0 0).isSome = inB place 0 (tot r.Reaches - 1) := by
    rw [Bool.eq_iff_iff, hf, inB_iff]; omega
  rw [find_eq hr hl, ← hf]
  cases findGo place r.Shoals r.Reaches 0 0 with
  | none => exact ⟨_, rfl⟩
  | some s => exact ⟨_, rfl⟩
/-- The level of a reach in an hour. -/
def levAt (r : TRiver) (s : List (List TBounds)) (j : Nat) (h : Int) : TBounds := levB (reachAt r j) (flowAt r s j h)
theorem FcOk.lens {r : TRiver} {s : List (List TBounds)} {H : Nat} (h : FcOk r s H) : (∀ x ∈ r.Reaches, 0 ≤ x.Length ∧ x.Length ≤ 5000) ∧ r.Reaches.length ≤ 20 := by
  have h1 := h.river
  simp only [riverOk, Bool.and_eq_true, inB_iff, List.all_eq_true] at h1
  exact ⟨fun x hx => reachOk_len (h1.2.1 x hx), by omega⟩
set_option maxHeartbeats 1000000

set_option maxHeartbeats 1000000

/-- Is a forecast one that the program accepts? -/
def validF (r : TRiver) (s : List (List TBounds)) : Bool := !largeF r s && decide (startErr r s = 0)
theorem vB_side (b : TBounds) {x y : Option (Int ⊕ Unit ⊕ Bool)} : (bif decide (b.Low < 0) then x else bif decide (b.Low > b.High) then x else bif decide (b.High > 10000000000) then x else y) = if vB b 0 10000000000 then y else x := by
  by_cases c1 : b.Low < 0
  · have : vB b 0 10000000000 = false := by rw [Bool.eq_false_iff]; simp only [vB, inB, ne_eq, Bool.and_eq_true, decide_eq_true_eq]; omega
    simp [c1, this]
  · by_cases c2 : b.Low > b.High
    · have : vB b 0 10000000000 = false := by rw [Bool.eq_false_iff]; simp only [vB, inB, ne_eq, Bool.and_eq_true, decide_eq_true_eq]; omega
      simp [c1, c2, this]
    · by_cases c3 : b.High > 10000000000
      · have : vB b 0 10000000000 = false := by rw [Bool.eq_false_iff]; simp only [vB, inB, ne_eq, Bool.and_eq_true, decide_eq_true_eq]; omega
        simp [c1, c2, c3, this]
      · have : vB b 0 10000000000 = true := by simp only [vB, inB, Bool.and_eq_true, decide_eq_true_eq]; omega
        simp [c1, c2, c3, this]
/-- The sum of n numbers of a row from the jth on. -/
def sumF (f : Nat → TBounds) : Nat → Nat → TBounds
  | _, 0 => ⟨0, 0⟩
  | j, n + 1 => addB (f j) (sumF f (j + 1) n)
theorem sumF_take {l : List TBounds} {f : Nat → TBounds} (hf : ∀ k (h : k < l.length), l[k] = f k) : ∀ (n j : Nat), j + n ≤ l.length → sumB ((l.drop j).take n) = sumF f j n
  | 0, j, _ => by simp [sumB, sumF]
  | n + 1, j, h => by
    rw [List.drop_eq_getElem_cons (show j < l.length by omega), List.take_succ_cons, sumB, sumF, sumF_take hf n (j + 1) (by omega), hf]
theorem addB_assoc (a b c : TBounds) : addB (addB a b) c = addB a (addB b c) := by simp [addB, Int.add_assoc]
theorem sumF_append (f : Nat → TBounds) : ∀ (a j b : Nat), sumF f j (a + b) = addB (sumF f j a) (sumF f (j + a) b)
  | 0, j, b => by simp [sumF, addB]
  | a + 1, j, b => by
    rw [show a + 1 + b = (a + b) + 1 by omega, sumF, sumF, sumF_append f a (j + 1) b, addB_assoc, show j + 1 + a = j + (a + 1) by omega]
theorem sumF_add (f g : Nat → TBounds) : ∀ (n j : Nat), sumF (fun k => addB (f k) (g k)) j n = addB (sumF f j n) (sumF g j n)
  | 0, j => by simp [sumF, addB]
  | n + 1, j => by
    rw [sumF, sumF, sumF, sumF_add f g n (j + 1)]
    simp only [addB, TBounds.mk.injEq]
    omega
theorem sumF_congr {f g : Nat → TBounds} : ∀ (n j : Nat), (∀ k, j ≤ k → k < j + n → f k = g k) → sumF f j n = sumF g j n
  | 0, j, _ => rfl
  | n + 1, j, h => by rw [sumF, sumF, h j (by omega) (by omega), sumF_congr n (j + 1) fun k h1 h2 => h k (by omega) (by omega)]
theorem sumF_shift (g : Nat → TBounds) {d : Nat} : ∀ (n j : Nat), d ≤ j → sumF (fun k => g (k - d)) j n = sumF g (j - d) n
  | 0, j, _ => rfl
  | n + 1, j, h => by rw [sumF, sumF, sumF_shift g n (j + 1) (by omega), show j + 1 - d = j - d + 1 by omega]
theorem sumF_upTo {f : Nat → TBounds} {m : Int} (hm : 0 ≤ m) : ∀ (n j : Nat), (∀ k, j ≤ k → k < j + n → upTo m (f k)) → upTo (m * n) (sumF f j n)
  | 0, j, _ => by simp [sumF, upTo]
  | n + 1, j, h => by
    obtain ⟨a1, a2, a3⟩ := h j (by omega) (by omega)
    obtain ⟨b1, b2, b3⟩ := sumF_upTo hm n (j + 1) fun k h1 h2 => h k (by omega) (by omega)
    rw [sumF]
    simp only [upTo, addB]
    rw [show m * ((n + 1 : Nat) : Int) = m * (n : Int) + m by rw [Int.natCast_add, Int.mul_add]; simp]
    omega

def flowF (r : TRiver) (s : List (List TBounds)) (i : Nat) (k : Nat) : TBounds := flowAt r s i (k : Int)
theorem eqB_self (a : TBounds) : (a.Low == a.Low && (a.High == a.High && true)) = true := by simp
set_option maxHeartbeats 1000000

def shoalLo (x : TShoal) (h : Int) : Int := x.Bed.Low + (x.Grow.Low * minmax true 0 (h - x.Sounded)) / 24
def shoalHi (x : TShoal) (h : Int) : Int := x.Bed.High + -((-(x.Grow.High * minmax true 0 (h - x.Sounded))) / 24)
def shOk (x : TShoal) : Prop := 0 ≤ x.Bed.Low ∧ x.Bed.Low ≤ 10000 ∧ 0 ≤ x.Bed.High ∧ x.Bed.High ≤ 10000 ∧ -400 ≤ x.Sounded ∧ x.Sounded ≤ 400 ∧ -500 ≤ x.Grow.Low ∧ x.Grow.Low ≤ 500 ∧ -500 ≤ x.Grow.High ∧ x.Grow.High ≤ 500
theorem shOk_of {r : TRiver} {x : TShoal} (h : shoalOk r x = true) : shOk x := by
  simp only [shoalOk, vB, Bool.and_eq_true, inB_iff, decide_eq_true_eq] at h
  unfold shOk
  omega
theorem age_le {h s : Int} (h0 : -1000 ≤ h) (h1 : h ≤ 1000) (s0 : -400 ≤ s) (s1 : s ≤ 400) : 0 ≤ minmax true 0 (h - s) ∧ minmax true 0 (h - s) ≤ 1400 := by
  simp only [minmax, if_true]
  split <;> omega
theorem grow_le {a d : Int} (ha : -500 ≤ a) (ha' : a ≤ 500) (h0 : 0 ≤ d) (h1 : d ≤ 1400) : -700000 ≤ a * d ∧ a * d ≤ 700000 := by
  have e1 := Int.mul_le_mul_of_nonneg_right ha' h0
  have e2 := Int.mul_le_mul_of_nonneg_right ha h0
  omega
theorem shoal_le {x : TShoal} {h : Int} (hx : shOk x) (h0 : -1000 ≤ h) (h1 : h ≤ 1000) : -1000000 ≤ shoalLo x h ∧ shoalLo x h ≤ 1000000 ∧ -1000000 ≤ shoalHi x h ∧ shoalHi x h ≤ 1000000 := by
  obtain ⟨a1, a2, a3, a4, a5, a6, a7, a8, a9, a10⟩ := hx
  have ha := age_le h0 h1 a5 a6
  have g1 := grow_le a7 a8 ha.1 ha.2
  have g2 := grow_le a9 a10 ha.1 ha.2
  unfold shoalLo shoalHi
  generalize x.Grow.Low * minmax true 0 (h - x.Sounded) = u at *
  generalize x.Grow.High * minmax true 0 (h - x.Sounded) = v at *
  omega
theorem shoalAt_eq {x : TShoal} {h : Int} (hx : shOk x) (h0 : -1000 ≤ h) (h1 : h ≤ 1000) : F_river_shoalAt (x, h) = some ⟨shoalLo x h, shoalHi x h⟩ := by
  have hs := shoal_le hx h0 h1
  obtain ⟨a1, a2, a3, a4, a5, a6, a7, a8, a9, a10⟩ := hx
  have ha := age_le h0 h1 a5 a6
  have g1 := grow_le a7 a8 ha.1 ha.2
  have g2 := grow_le a9 a10 ha.1 ha.2
  simp only [F_river_shoalAt]
  rw [wr_in (n := h - x.Sounded) (by omega) (by omega), minmax_comm (h - x.Sounded) 0]
  rw [wr_in (n := x.Grow.Low * minmax true 0 (h - x.Sounded)) (by omega) (by omega), wr_in (n := x.Grow.High * minmax true 0 (h - x.Sounded)) (by omega) (by omega)]
  rw [Down_eq (by decide) (by omega), Up_eq (by decide) (by omega)]
  simp only [Option.bind_some]
  unfold shoalLo shoalHi at hs
  rw [wr_in (n := x.Bed.Low + _) (by omega) (by omega), wr_in (n := x.Bed.High + _) (by omega) (by omega)]
  rfl

def bedGo (place h : Int) : List TShoal → Int → Int → Int × Int
  | [], a, b => (a, b)
  | x :: l, a, b => if x.Place = place then bedGo place h l (minmax true a (shoalLo x h)) (minmax true b (shoalHi x h)) else bedGo place h l a b
theorem max_le {a b m : Int} (h0 : -m ≤ a) (h1 : a ≤ m) (h2 : -m ≤ b) (h3 : b ≤ m) : -m ≤ minmax true a b ∧ minmax true a b ≤ m := by
  simp only [minmax, if_true]
  split <;> omega
theorem bedGo_le {place h : Int} (h0 : -1000 ≤ h) (h1 : h ≤ 1000) : ∀ {l : List TShoal} {a b : Int}, (∀ x ∈ l, shOk x) → -1000000 ≤ a → a ≤ 1000000 → -1000000 ≤ b → b ≤ 1000000 →
    -1000000 ≤ (bedGo place h l a b).1 ∧ (bedGo place h l a b).1 ≤ 1000000 ∧ -1000000 ≤ (bedGo place h l a b).2 ∧ (bedGo place h l a b).2 ≤ 1000000
  | [], a, b, _, a0, a1, b0, b1 => by simp only [bedGo]; omega
  | x :: l, a, b, hx, a0, a1, b0, b1 => by
    have hs := shoal_le (hx x (by simp)) h0 h1
    have m1 := max_le a0 a1 hs.1 hs.2.1
    have m2 := max_le b0 b1 hs.2.2.1 hs.2.2.2
    simp only [bedGo]
    split
    · exact bedGo_le h0 h1 (fun y hy => hx y (by simp [hy])) m1.1 m1.2 m2.1 m2.2
    · exact bedGo_le h0 h1 (fun y hy => hx y (by simp [hy])) a0 a1 b0 b1
theorem bed_loop (p : Triver_site) {h : Int} (h0 : -1000 ≤ h) (h1 : h ≤ 1000) : ∀ (m : List TShoal) (k : Nat) (a b : Int), p.shoals_.drop k = m → (∀ x ∈ m, shOk x) → k + m.length ≤ 1000000 →
    loopC (L_river_site_bed_1 p h).step ((k : Int), a, b) = some (bedGo p.place_ h m a b)
  | [], k, a, b, hd, _, _ => by
    have := drop_nil hd
    have e : (L_river_site_bed_1 p h).step ((k : Int), a, b) = some (.inr (a, b)) := by
      simp only [L_river_site_bed_1, decide_eq_false (show ¬ (k : Int) < (p.shoals_.length : Int) by omega), cond_false]
    rw [loopC_eq, e]
    rfl
  | x :: m, k, a, b, hd, hx, hk => by
    obtain ⟨hl, hg, hd'⟩ := drop_cons hd
    have hx0 := hx x (by simp)
    simp only [List.length_cons] at hk
    have ih := fun a b => bed_loop p h0 h1 m (k + 1) a b hd' (fun y hy => hx y (by simp [hy])) (by omega)
    have e : (L_river_site_bed_1 p h).step ((k : Int), a, b) = some (.inl (if x.Place = p.place_ then (((k + 1 : Nat) : Int), minmax true a (shoalLo x h), minmax true b (shoalHi x h)) else (((k + 1 : Nat) : Int), a, b))) := by
      simp only [L_river_site_bed_1, decide_eq_true (show (k : Int) < (p.shoals_.length : Int) by omega), cond_true, idx?_nat hl, Option.bind_some, hg, shoalAt_eq hx0 h0 h1]
      rw [wr_nat (by omega)]
      by_cases c : x.Place = p.place_
      · rw [if_pos c, c]; simp
      · rw [if_neg c, show (x.Place == p.place_) = false by simpa using c]; rfl
    rw [loopC_eq, e, bedGo]
    by_cases c : x.Place = p.place_
    · rw [if_pos c, if_pos c]; exact ih _ _
    · rw [if_neg c, if_neg c]; exact ih _ _
/-- The bed at a place of a reach. -/
def bedOf (r : TRiver) (j : Nat) (place h : Int) : TBounds := ⟨(bedGo place h r.Shoals (reachAt r j).Bottom.Low (reachAt r j).Bottom.High).1, (bedGo place h r.Shoals (reachAt r j).Bottom.Low (reachAt r j).Bottom.High).2⟩
theorem river_parts {r : TRiver} (h : riverOk r = true) : (∀ x ∈ r.Reaches, 0 ≤ x.Length ∧ x.Length ≤ 5000) ∧ 1 ≤ r.Reaches.length ∧ r.Reaches.length ≤ 20 ∧ r.Shoals.length ≤ 40 ∧ (∀ x ∈ r.Shoals, shOk x) ∧ ∀ j, j < r.Reaches.length → reachOk (reachAt r j) = true := by
  simp only [riverOk, Bool.and_eq_true, inB_iff, List.all_eq_true, decide_eq_true_eq] at h
  refine ⟨fun x hx => reachOk_len (h.2.1 x hx), by omega, by omega, h.2.2.1, fun x hx => shOk_of (h.2.2.2 x hx), fun j hj => ?_⟩
  rw [reachAt, List.getElem?_eq_getElem hj]
  exact h.2.1 _ (List.getElem_mem hj)
theorem bottom_of {x : TReach} (h : reachOk x = true) : 0 ≤ x.Bottom.Low ∧ x.Bottom.Low ≤ 10000 ∧ 0 ≤ x.Bottom.High ∧ x.Bottom.High ≤ 10000 ∧ 0 ≤ x.Weir ∧ x.Weir ≤ 10000 := by
  simp only [reachOk, vB, Bool.and_eq_true, inB_iff, decide_eq_true_eq] at h
  omega
theorem siteBed_eq {r : TRiver} (hr : riverOk r = true) {j : Nat} (hj : j < r.Reaches.length) {place h : Int} (h0 : -1000 ≤ h) (h1 : h ≤ 1000) : F_river_site_bed (⟨reachAt r j, (j : Int), place, r.Shoals⟩, h) = some (bedOf r j place h) := by
  obtain ⟨p1, p2, p3, p4, p5, p6⟩ := river_parts hr
  have hb := bottom_of (p6 j hj)
  simp only [F_river_site_bed]
  rw [show minmax true 0 (reachAt r j).Bottom.Low = (reachAt r j).Bottom.Low by simp only [minmax, if_true]; split <;> omega, show minmax true 0 (reachAt r j).Bottom.High = (reachAt r j).Bottom.High by simp only [minmax, if_true]; split <;> omega]
  rw [show ((0 : Int), (reachAt r j).Bottom.Low, (reachAt r j).Bottom.High) = (((0 : Nat) : Int), (reachAt r j).Bottom.Low, (reachAt r j).Bottom.High) from rfl,
    bed_loop ⟨reachAt r j, (j : Int), place, r.Shoals⟩ h0 h1 r.Shoals 0 _ _ rfl p5 (by omega)]
  rfl
theorem bedOf_le {r : TRiver} (hr : riverOk r = true) {j : Nat} (hj : j < r.Reaches.length) {place h : Int} (h0 : -1000 ≤ h) (h1 : h ≤ 1000) : -1000000 ≤ (bedOf r j place h).Low ∧ (bedOf r j place h).Low ≤ 1000000 ∧ -1000000 ≤ (bedOf r j place h).High ∧ (bedOf r j place h).High ≤ 1000000 := by
  obtain ⟨p1, p2, p3, p4, p5, p6⟩ := river_parts hr
  have hb := bottom_of (p6 j hj)
  exact bedGo_le h0 h1 p5 (by omega) (by omega) (by omega) (by omega)

theorem level_small {l : List TRateRow} {n : Int} {up : Bool} (hc : curveOk l = true) : -200000000000000 ≤ levelOf l n up ∧ levelOf l n up ≤ 200000000000000 := by
  simp only [curveOk, Bool.and_eq_true, inB_iff] at hc
  obtain ⟨hl, hps, hrs⟩ := hc
  have hle := first_le l n
  by_cases c : firstAt l n < l.length
  · have ci : firstAt l n - 1 < l.length := by omega
    have r1 := row_in hrs ci
    have r2 := row_in hrs c
    simp only [levelOf, List.getElem?_eq_getElem c, List.getElem?_eq_getElem ci]
    by_cases c0 : firstAt l n = 0
    · rw [if_pos c0]; omega
    · rw [if_neg c0]
      have f1 := first_lt (n := n) (show firstAt l n - 1 < firstAt l n by omega) ci
      have f2 := first_at c
      have lv := levels_up hps (a := firstAt l n - 1) (by omega)
      simp only [show firstAt l n - 1 + 1 = firstAt l n by omega] at lv
      have hm := mul_small (a := l[firstAt l n].Level - l[firstAt l n - 1].Level) (b := n - l[firstAt l n - 1].Flow) (by omega) (by omega) (by omega) (by omega)
      have hd := div_small (b := l[firstAt l n].Flow - l[firstAt l n - 1].Flow) (by omega) hm.1 hm.2 up
      omega
  · have ce : firstAt l n = l.length := by omega
    have ci : l.length - 1 < l.length := by omega
    have r1 := row_in hrs ci
    simp only [levelOf, ce, List.getElem?_eq_none (Nat.le_refl l.length), List.getElem?_eq_getElem ci]
    omega
theorem lev_le {x : TReach} {b : TBounds} (h : reachOk x = true) : -200000000000000 ≤ (levB x b).Low ∧ (levB x b).Low ≤ 200000000000000 ∧ -200000000000000 ≤ (levB x b).High ∧ (levB x b).High ≤ 200000000000000 := by
  have hb := bottom_of h
  have l1 := level_small (n := b.Low) (up := false) (reachOk_curve h)
  have l2 := level_small (n := b.High) (up := true) (reachOk_curve h)
  have m1 := max_le (m := 200000000000000) (b := x.Weir) l1.1 l1.2 (by omega) (by omega)
  have m2 := max_le (m := 200000000000000) (b := x.Weir) l2.1 l2.2 (by omega) (by omega)
  exact ⟨m1.1, m1.2, m2.1, m2.2⟩

/-- The depth at a place of a reach. -/
def depthOf (r : TRiver) (s : List (List TBounds)) (j : Nat) (place h : Int) : TBounds := ⟨minmax true 0 ((levAt r s j h).Low - (bedOf r j place h).High), minmax true 0 ((levAt r s j h).High - (bedOf r j place h).Low)⟩
theorem streamDepth_eq {r : TRiver} {s : List (List TBounds)} {H : Nat} (h : FcOk r s H) {j kn : Nat} (hj : j < r.Reaches.length) (hk : kn < H) (place : Int) :
    F_river_stream_depth (⟨r, flowsTo r s H s.length⟩, ⟨reachAt r j, (j : Int), place, r.Shoals⟩, (kn : Int)) = some (depthOf r s j place (kn : Int)) := by
  have hb := h.bounds
  have hm := h.most
  have hln := h.len
  have hlev : F_river_stream_level (⟨r, flowsTo r s H s.length⟩, (j : Int), (kn : Int)) = some (levAt r s j (kn : Int)) := by
    simp only [F_river_stream_level, idx?_nat hj, Option.bind_some]
    rw [idx?_nat (by rw [flowsTo_length]; omega), flowsTo_get]
    simp only [Option.bind_some]
    rw [idx?_nat (by rw [rowOf_length]; omega), rowOf_get]
    simp only [Option.bind_some]
    rw [reachAt_eq hj, levelAt_eq (reachOk_curve (hb.2.2 j hj))]
    rfl
  have l1 := lev_le (b := flowAt r s j (kn : Int)) (hb.2.2 j hj)
  have l2 := bedOf_le h.river hj (place := place) (h := (kn : Int)) (by omega) (by omega)
  have e : levAt r s j (kn : Int) = levB (reachAt r j) (flowAt r s j (kn : Int)) := rfl
  rw [← e] at l1
  simp only [F_river_stream_depth, hlev, Option.bind_some, siteBed_eq h.river hj (show -1000 ≤ (kn : Int) by omega) (show (kn : Int) ≤ 1000 by omega)]
  rw [wr_in (n := (levAt r s j (kn : Int)).Low - _) (by omega) (by omega), wr_in (n := (levAt r s j (kn : Int)).High - _) (by omega) (by omega), minmax_comm _ 0, minmax_comm _ 0]
  rfl
theorem Depth_err {r : TRiver} {s : List (List TBounds)} (hz : startErr r s ≠ 0) (hs : ∀ x ∈ s, x.length ≤ 1000000) (p k : Int) : F_river_Depth (r, s, p, k) = some (⟨0, 0⟩, startErr r s) := by
  simp only [F_river_Depth, run_err hz hs, Option.bind_some, show (startErr r s != 0) = true by simpa using hz, cond_true]
theorem Depth_eq {r : TRiver} {s : List (List TBounds)} {H : Nat} (h : FcOk r s H) (hz : startErr r s = 0) (hs : ∀ x ∈ s, x.length ≤ 1000000) (place k : Int) :
    (inB place 0 (tot r.Reaches - 1) = false → F_river_Depth (r, s, place, k) = some (⟨0, 0⟩, 7)) ∧
    (inB place 0 (tot r.Reaches - 1) = true → inB k 0 ((H : Int) - 1) = false → F_river_Depth (r, s, place, k) = some (⟨0, 0⟩, 3)) ∧
    (inB place 0 (tot r.Reaches - 1) = true → inB k 0 ((H : Int) - 1) = true → ∃ j, j < r.Reaches.length ∧ F_thalwegref01_Of (r, place) = some (j : Int) ∧ F_river_Depth (r, s, place, k) = some (depthOf r s j place k, 0)) := by
  obtain ⟨hr, hrl⟩ := h.lens
  have hm := h.most
  have hp := h.pos
  have hln := h.len
  have hb := h.bounds
  obtain ⟨st, hst⟩ := find_in (place := place) hr (by omega)
  have hrun := run_eq h hz hs
  have hhr : F_river_stream_hours ⟨r, flowsTo r s H s.length⟩ = some (H : Int) := by
    simp only [F_river_stream_hours]
    rw [show (0 : Int) = ((0 : Nat) : Int) from rfl, idx?_nat (by rw [flowsTo_length]; omega), flowsTo_get]
    simp only [Option.bind_some, rowOf_length]
  have hw : wr ((H : Int) - 1) = (H : Int) - 1 := wr_in (by omega) (by omega)
  refine ⟨fun hpl => ?_, fun hpl hk => ?_, fun hpl hk => ?_⟩
  · simp only [F_river_Depth, hrun, Option.bind_some, bne_self_eq_false, cond_false, F_river_stream_findAt, hst, hpl, Bool.not_false, cond_true]
    rfl
  · simp only [F_river_Depth, hrun, Option.bind_some, bne_self_eq_false, cond_false, F_river_stream_findAt, hst, hpl, Bool.not_true, hhr, hw, within1, hk, Bool.not_false, cond_true]
    rfl
  · have hpl' := hpl
    have hk' := hk
    rw [inB_iff] at hpl' hk'
    obtain ⟨j, hj, a1, a2⟩ := Of_eq hr (show r.Reaches.length ≤ 1000 by omega) hpl'.1 (by omega)
    refine ⟨j, hj, a1, ?_⟩
    rw [reachAt_eq hj] at a2
    obtain ⟨kn, rfl⟩ := Int.eq_ofNat_of_zero_le hk'.1
    simp only [F_river_Depth, hrun, Option.bind_some, bne_self_eq_false, cond_false, F_river_stream_findAt, a2, Bool.not_true, hhr, hw, within1, hk, streamDepth_eq h hj (show kn < H by omega) place]
set_option maxHeartbeats 1000000

set_option maxHeartbeats 1000000

/-! errors of ways -/
def passErr (r : TRiver) (H : Int) (p : TPass) : Int := if inB p.Place 0 (tot r.Reaches - 1) then (if vB p.Hours 0 (H - 1) then 0 else 3) else 7
def wayGo (r : TRiver) (H : Int) : List TPass → Int
  | [] => 0
  | p :: l => if passErr r H p = 0 then wayGo r H l else passErr r H p
def wayErr (r : TRiver) (H : Int) (l : List TPass) : Int := if l.length = 0 then 4 else if l.length > 60 then 5 else wayGo r H l
theorem checkWay_loop {r : TRiver} {fl : List (List TBounds)} {H : Nat} (hH : H ≤ 1000) (hr : ∀ x ∈ r.Reaches, 0 ≤ x.Length ∧ x.Length ≤ 5000) (hl : r.Reaches.length ≤ 1000) (hh : F_river_stream_hours ⟨r, fl⟩ = some (H : Int)) (way : List TPass) : ∀ (m : List TPass) (k : Nat), way.drop k = m → k + m.length ≤ 1000000 →
    loopC (L_river_stream_checkWay_1 way ⟨r, fl⟩).step (k : Int) = some (if wayGo r H m = 0 then .inl () else .inr (wayGo r H m))
  | [], k, hd, _ => by
    have := drop_nil hd
    have e : (L_river_stream_checkWay_1 way ⟨r, fl⟩).step (k : Int) = some (.inr (.inl ())) := by
      simp only [L_river_stream_checkWay_1, decide_eq_false (show ¬ (k : Int) < (way.length : Int) by omega), cond_false]
    rw [loopC_eq, e]
    simp [wayGo]
  | p :: m, k, hd, hk => by
    obtain ⟨hlt, hg, hd'⟩ := drop_cons hd
    simp only [List.length_cons] at hk
    have ih := checkWay_loop hH hr hl hh way m (k + 1) hd' (by omega)
    obtain ⟨st, hst⟩ := find_in (place := p.Place) hr hl
    have e : (L_river_stream_checkWay_1 way ⟨r, fl⟩).step (k : Int) = some (if passErr r H p = 0 then .inl ((k + 1 : Nat) : Int) else .inr (.inr (passErr r H p))) := by
      simp only [L_river_stream_checkWay_1, decide_eq_true (show (k : Int) < (way.length : Int) by omega), cond_true, idx?_nat hlt, Option.bind_some, hg, hst, hh, valid_eq]
      rw [wr_nat (by omega), wr_in (n := (H : Int) - 1) (by omega) (by omega)]
      unfold passErr
      cases inB p.Place 0 (tot r.Reaches - 1) <;> cases vB p.Hours 0 ((H : Int) - 1) <;> rfl
    rw [loopC_eq, e, wayGo]
    by_cases c : passErr r H p = 0
    · rw [if_pos c, if_pos c]; exact ih
    · rw [if_neg c, if_neg c, if_neg c]
theorem checkWay_eq {r : TRiver} {fl : List (List TBounds)} {H : Nat} (hH : H ≤ 1000) (hr : ∀ x ∈ r.Reaches, 0 ≤ x.Length ∧ x.Length ≤ 5000) (hl : r.Reaches.length ≤ 1000) (hh : F_river_stream_hours ⟨r, fl⟩ = some (H : Int)) {way : List TPass} (hw : way.length ≤ 1000) :
    F_river_stream_checkWay (⟨r, fl⟩, way) = some (wayErr r H way) := by
  have hloop := checkWay_loop hH hr hl hh way way 0 rfl (by omega)
  have hloop : loopC (L_river_stream_checkWay_1 way ⟨r, fl⟩).step 0 = _ := hloop
  simp only [F_river_stream_checkWay, hloop, wayErr]
  by_cases c0 : way.length = 0
  · simp [c0]
  · rw [show (((way.length : Nat) : Int) == 0) = false by simpa using c0, if_neg c0]
    by_cases c1 : way.length > 60
    · rw [decide_eq_true (show (way.length : Int) > 60 by omega), if_pos c1]; rfl
    · rw [decide_eq_false (show ¬ (way.length : Int) > 60 by omega), if_neg c1]
      simp only [cond_false]
      by_cases c : wayGo r H way = 0
      · rw [if_pos c, c]; rfl
      · rw [if_neg c]; rfl
/-! how small depths are -/
theorem part_le {dy t dF : Int} (hF : 0 < dF) (h0 : 0 ≤ dy) (h1 : 0 ≤ t) (h2 : t ≤ dF) (up : Bool) : 0 ≤ divB up (dy * t) dF ∧ divB up (dy * t) dF ≤ dy := by
  have m0 : 0 ≤ dy * t := Int.mul_nonneg h0 h1
  have m1 : dy * t ≤ dy * dF := Int.mul_le_mul_of_nonneg_left h2 h0
  unfold divB
  split
  · have e1 : (-(dy * t)) / dF ≤ 0 := by
      have := Int.ediv_le_ediv hF (show -(dy * t) ≤ 0 by omega)
      simpa using this
    have e2 : -dy ≤ (-(dy * t)) / dF := by
      rw [Int.le_ediv_iff_mul_le hF, Int.neg_mul]
      omega
    omega
  · refine ⟨Int.ediv_nonneg m0 (by omega), ?_⟩
    have : dy * t / dF ≤ dy * dF / dF := Int.ediv_le_ediv hF m1
    rwa [Int.mul_ediv_cancel _ (by omega)] at this
theorem level_tight {l : List TRateRow} {n : Int} {up : Bool} (hc : curveOk l = true) : 0 ≤ levelOf l n up ∧ levelOf l n up ≤ 10000 := by
  simp only [curveOk, Bool.and_eq_true, inB_iff] at hc
  obtain ⟨hl, hps, hrs⟩ := hc
  have hle := first_le l n
  by_cases c : firstAt l n < l.length
  · have ci : firstAt l n - 1 < l.length := by omega
    have r1 := row_in hrs ci
    have r2 := row_in hrs c
    simp only [levelOf, List.getElem?_eq_getElem c, List.getElem?_eq_getElem ci]
    by_cases c0 : firstAt l n = 0
    · rw [if_pos c0]; omega
    · rw [if_neg c0]
      have f1 := first_lt (n := n) (show firstAt l n - 1 < firstAt l n by omega) ci
      have f2 := first_at c
      have lv := levels_up hps (a := firstAt l n - 1) (by omega)
      simp only [show firstAt l n - 1 + 1 = firstAt l n by omega] at lv
      have hd := part_le (dy := l[firstAt l n].Level - l[firstAt l n - 1].Level) (t := n - l[firstAt l n - 1].Flow) (dF := l[firstAt l n].Flow - l[firstAt l n - 1].Flow) (by omega) (by omega) (by omega) (by omega) up
      omega
  · have ce : firstAt l n = l.length := by omega
    have ci : l.length - 1 < l.length := by omega
    have r1 := row_in hrs ci
    simp only [levelOf, ce, List.getElem?_eq_none (Nat.le_refl l.length), List.getElem?_eq_getElem ci]
    omega
theorem bedGo_ge {place h : Int} : ∀ {l : List TShoal} {a b : Int}, 0 ≤ a → 0 ≤ b → 0 ≤ (bedGo place h l a b).1 ∧ 0 ≤ (bedGo place h l a b).2
  | [], a, b, a0, b0 => ⟨a0, b0⟩
  | x :: l, a, b, a0, b0 => by
    simp only [bedGo]
    split
    · refine bedGo_ge ?_ ?_ <;> simp only [minmax, if_true] <;> split <;> omega
    · exact bedGo_ge a0 b0
theorem depth_le {r : TRiver} {s : List (List TBounds)} (hr : riverOk r = true) {j : Nat} (hj : j < r.Reaches.length) {place h : Int} : 0 ≤ (depthOf r s j place h).Low ∧ (depthOf r s j place h).Low ≤ 10000 ∧ 0 ≤ (depthOf r s j place h).High ∧ (depthOf r s j place h).High ≤ 10000 := by
  obtain ⟨p1, p2, p3, p4, p5, p6⟩ := river_parts hr
  have hb := bottom_of (p6 j hj)
  have hg := bedGo_ge (place := place) (h := h) (l := r.Shoals) hb.1 hb.2.2.1
  have l1 := level_tight (n := (flowAt r s j h).Low) (up := false) (reachOk_curve (p6 j hj))
  have l2 := level_tight (n := (flowAt r s j h).High) (up := true) (reachOk_curve (p6 j hj))
  simp only [depthOf, levAt, levB, bedOf, minmax, if_true]
  refine ⟨?_, ?_, ?_, ?_⟩ <;> (repeat' split) <;> omega
set_option maxHeartbeats 1000000

/-! hours, one after another -/
def scanLo (d : Int → TBounds) : Nat → Int → Int → Int → Int × Int
  | 0, _, lo, hr => (lo, hr)
  | n + 1, k, lo, hr => if (d k).Low < lo then scanLo d n (k + 1) (d k).Low k else scanLo d n (k + 1) lo hr
def scanHi (d : Int → TBounds) : Nat → Int → Int → Int
  | 0, _, hi => hi
  | n + 1, k, hi => scanHi d n (k + 1) (minmax true hi (d k).High)
def scanR (d : Int → TBounds) (i : Int) : Nat → Int → Int → Int → Int → Int × Int × Int
  | 0, _, p, h, lo => (p, h, lo)
  | n + 1, k, p, h, lo => if (d k).Low < lo then scanR d i n (k + 1) i k (d k).Low else scanR d i n (k + 1) p h lo
def sel (i p0 h0 L : Int) (q : Int × Int) : Int × Int × Int := if q.1 < L then (i, q.2, q.1) else (p0, h0, L)
theorem scan_sel (d : Int → TBounds) (i p0 h0 L : Int) : ∀ (n : Nat) (k M hm : Int), scanR d i n k (sel i p0 h0 L (M, hm)).1 (sel i p0 h0 L (M, hm)).2.1 (sel i p0 h0 L (M, hm)).2.2 = sel i p0 h0 L (scanLo d n k M hm)
  | 0, k, M, hm => rfl
  | n + 1, k, M, hm => by
    have ih1 := scan_sel d i p0 h0 L n (k + 1) (d k).Low k
    have ih2 := scan_sel d i p0 h0 L n (k + 1) M hm
    simp only [scanR, scanLo]
    by_cases c1 : M < L
    · have e : sel i p0 h0 L (M, hm) = (i, hm, M) := by simp [sel, c1]
      rw [e] at ih2 ⊢
      simp only at ih2 ⊢
      by_cases c2 : (d k).Low < M
      · rw [if_pos c2, if_pos c2, ← ih1, show sel i p0 h0 L ((d k).Low, k) = (i, k, (d k).Low) by simp [sel, show (d k).Low < L by omega]]
      · rw [if_neg c2, if_neg c2]; exact ih2
    · have e : sel i p0 h0 L (M, hm) = (p0, h0, L) := by simp [sel, c1]
      rw [e] at ih2 ⊢
      simp only at ih2 ⊢
      by_cases c2 : (d k).Low < L
      · rw [if_pos c2, if_pos (show (d k).Low < M by omega), ← ih1, show sel i p0 h0 L ((d k).Low, k) = (i, k, (d k).Low) by simp [sel, c2]]
      · rw [if_neg c2]
        by_cases c3 : (d k).Low < M
        · rw [if_pos c3, ← ih1, show sel i p0 h0 L ((d k).Low, k) = (p0, h0, L) by simp [sel, c2]]
        · rw [if_neg c3]; exact ih2
theorem scan_first (d : Int → TBounds) (i p0 h0 L : Int) (n : Nat) (k : Int) : scanR d i (n + 1) k p0 h0 L = sel i p0 h0 L (scanLo d (n + 1) k (d k).Low k) := by
  have h := scan_sel d i p0 h0 L n (k + 1) (d k).Low k
  simp only [scanR, scanLo, if_neg (show ¬ (d k).Low < (d k).Low by omega)]
  rw [← h]
  by_cases c : (d k).Low < L
  · rw [if_pos c, show sel i p0 h0 L ((d k).Low, k) = (i, k, (d k).Low) by simp [sel, c]]
  · rw [if_neg c, show sel i p0 h0 L ((d k).Low, k) = (p0, h0, L) by simp [sel, c]]
theorem scanHi_first {d : Int → TBounds} {n : Nat} {k : Int} (h : 0 ≤ (d k).High) : scanHi d (n + 1) k 0 = scanHi d (n + 1) k (d k).High := by
  simp only [scanHi]
  congr 1
  simp only [minmax, if_true]
  split <;> split <;> omega
theorem scanLo_le {d : Int → TBounds} (hd : ∀ k, 0 ≤ (d k).Low ∧ (d k).Low ≤ 10000) : ∀ (n : Nat) (k M hm : Int), 0 ≤ M → M ≤ 10000 → 0 ≤ (scanLo d n k M hm).1 ∧ (scanLo d n k M hm).1 ≤ 10000
  | 0, k, M, hm, a, b => ⟨a, b⟩
  | n + 1, k, M, hm, a, b => by
    have := hd k
    simp only [scanLo]
    split
    · exact scanLo_le hd n _ _ _ (by omega) (by omega)
    · exact scanLo_le hd n _ _ _ a b
theorem scanHi_le {d : Int → TBounds} (hd : ∀ k, 0 ≤ (d k).High ∧ (d k).High ≤ 10000) : ∀ (n : Nat) (k M : Int), 0 ≤ M → M ≤ 10000 → 0 ≤ scanHi d n k M ∧ scanHi d n k M ≤ 10000
  | 0, k, M, a, b => ⟨a, b⟩
  | n + 1, k, M, a, b => by
    have := hd k
    simp only [scanHi]
    refine scanHi_le hd n _ _ ?_ ?_ <;> simp only [minmax, if_true] <;> split <;> omega

/-! places and their reaches -/
def reachNo (r : TRiver) (place : Int) : Nat := match findGo place r.Shoals r.Reaches 0 0 with
  | some s => s.number_.toNat
  | none => 0
theorem Of_eq2 {r : TRiver} {place : Int} (hr : ∀ x ∈ r.Reaches, 0 ≤ x.Length ∧ x.Length ≤ 5000) (hl : r.Reaches.length ≤ 1000) (hp : inB place 0 (tot r.Reaches - 1) = true) :
    reachNo r place < r.Reaches.length ∧ F_thalwegref01_Of (r, place) = some (reachNo r place : Int) ∧ F_river_find (r, place) = some (⟨reachAt r (reachNo r place), (reachNo r place : Int), place, r.Shoals⟩, true) := by
  rw [inB_iff] at hp
  obtain ⟨j, hj, a1, a2⟩ := Of_eq hr hl hp.1 (by omega)
  rw [reachAt_eq hj] at a2
  have e : reachNo r place = j := by
    have a3 := a2
    rw [find_eq hr hl] at a3
    unfold reachNo
    cases hf : findGo place r.Shoals r.Reaches 0 0 with
    | none => rw [hf] at a3; simp at a3
    | some s => rw [hf] at a3; simp only [Option.some.injEq, Prod.mk.injEq, and_true] at a3; subst a3; simp
  rw [e]
  exact ⟨hj, a1, a2⟩
def dAt (r : TRiver) (s : List (List TBounds)) (place h : Int) : TBounds := depthOf r s (reachNo r place) place h
def cnt (p : TPass) : Nat := (p.Hours.High - p.Hours.Low + 1).toNat
def passLo (r : TRiver) (s : List (List TBounds)) (p : TPass) : Int × Int := scanLo (dAt r s p.Place) (cnt p) p.Hours.Low (dAt r s p.Place p.Hours.Low).Low p.Hours.Low
def passHi (r : TRiver) (s : List (List TBounds)) (p : TPass) : Int := scanHi (dAt r s p.Place) (cnt p) p.Hours.Low (dAt r s p.Place p.Hours.Low).High
/-- A pass that is as it should be. -/
structure PassOk (r : TRiver) (H : Nat) (p : TPass) : Prop where
  place : inB p.Place 0 (tot r.Reaches - 1) = true
  low : 0 ≤ p.Hours.Low
  le : p.Hours.Low ≤ p.Hours.High
  high : p.Hours.High < H
theorem passOk_of {r : TRiver} {H : Nat} {p : TPass} (h : passErr r H p = 0) : PassOk r H p := by
  unfold passErr at h
  split at h
  · next h1 =>
    split at h
    · next h2 =>
      simp only [vB, Bool.and_eq_true, inB_iff, decide_eq_true_eq] at h2
      exact ⟨h1, by omega, by omega, by omega⟩
    · cases h
  · cases h

section
variable {r : TRiver} {s : List (List TBounds)} {H : Nat}
theorem depthAt {p : TPass} (h : FcOk r s H) (hp : PassOk r H p) {k : Int} (h0 : 0 ≤ k) (h1 : k < H) :
    F_river_stream_depth (⟨r, flowsTo r s H s.length⟩, ⟨reachAt r (reachNo r p.Place), (reachNo r p.Place : Int), p.Place, r.Shoals⟩, k) = some (dAt r s p.Place k) := by
  obtain ⟨hr, hrl⟩ := h.lens
  obtain ⟨hj, _, _⟩ := Of_eq2 hr (show r.Reaches.length ≤ 1000 by omega) hp.place
  obtain ⟨kn, rfl⟩ := Int.eq_ofNat_of_zero_le h0
  exact streamDepth_eq h hj (by omega) p.Place
theorem pass_loop {p : TPass} (h : FcOk r s H) (hp : PassOk r H p) : ∀ (n : Nat) (l hr lo hi : Int), 0 ≤ l → l + n = cnt p →
    loopC (L_river_stream_passDepth_1 p ⟨r, flowsTo r s H s.length⟩ (⟨reachAt r (reachNo r p.Place), (reachNo r p.Place : Int), p.Place, r.Shoals⟩, true)).step (hr, l, lo, hi) =
      some ((scanLo (dAt r s p.Place) n (p.Hours.Low + l) lo hr).2, (scanLo (dAt r s p.Place) n (p.Hours.Low + l) lo hr).1, scanHi (dAt r s p.Place) n (p.Hours.Low + l) hi)
  | 0, l, hr, lo, hi, h0, hl => by
    have hm := h.most
    have h1 := hp.low
    have h2 := hp.le
    have h3 := hp.high
    have e : (cnt p : Int) = p.Hours.High - p.Hours.Low + 1 := by unfold cnt; omega
    have e2 : (L_river_stream_passDepth_1 p ⟨r, flowsTo r s H s.length⟩ (⟨reachAt r (reachNo r p.Place), (reachNo r p.Place : Int), p.Place, r.Shoals⟩, true)).step (hr, l, lo, hi) = some (.inr (hr, lo, hi)) := by
      simp only [L_river_stream_passDepth_1]
      rw [wr_in (n := p.Hours.High - p.Hours.Low) (by omega) (by omega), wr_in (n := p.Hours.High - p.Hours.Low + 1) (by omega) (by omega), decide_eq_false (by omega)]
      rfl
    rw [loopC_eq, e2]
    rfl
  | n + 1, l, hr, lo, hi, h0, hl => by
    have hm := h.most
    have h1 := hp.low
    have h2 := hp.le
    have h3 := hp.high
    have e : (cnt p : Int) = p.Hours.High - p.Hours.Low + 1 := by unfold cnt; omega
    have ih := fun hr lo hi => pass_loop h hp n (l + 1) hr lo hi (by omega) (by omega)
    have e2 : (L_river_stream_passDepth_1 p ⟨r, flowsTo r s H s.length⟩ (⟨reachAt r (reachNo r p.Place), (reachNo r p.Place : Int), p.Place, r.Shoals⟩, true)).step (hr, l, lo, hi) =
        some (.inl (if (dAt r s p.Place (p.Hours.Low + l)).Low < lo then (p.Hours.Low + l, l + 1, (dAt r s p.Place (p.Hours.Low + l)).Low, minmax true hi (dAt r s p.Place (p.Hours.Low + l)).High) else (hr, l + 1, lo, minmax true hi (dAt r s p.Place (p.Hours.Low + l)).High))) := by
      simp only [L_river_stream_passDepth_1]
      rw [wr_in (n := p.Hours.High - p.Hours.Low) (by omega) (by omega), wr_in (n := p.Hours.High - p.Hours.Low + 1) (by omega) (by omega), decide_eq_true (by omega), wr_in (n := p.Hours.Low + l) (by omega) (by omega), wr_in (n := l + 1) (by omega) (by omega), depthAt h hp (by omega) (by omega)]
      simp only [cond_true, Option.bind_some]
      by_cases c : (dAt r s p.Place (p.Hours.Low + l)).Low < lo
      · rw [decide_eq_true c, if_pos c]; rfl
      · rw [decide_eq_false c, if_neg c]; rfl
    rw [loopC_eq, e2]
    simp only [scanLo, scanHi]
    rw [show p.Hours.Low + l + 1 = p.Hours.Low + (l + 1) by omega]
    by_cases c : (dAt r s p.Place (p.Hours.Low + l)).Low < lo
    · rw [if_pos c, if_pos c]; exact ih _ _ _
    · rw [if_neg c, if_neg c]; exact ih _ _ _
theorem passDepth_eq {p : TPass} (h : FcOk r s H) (hp : PassOk r H p) : F_river_stream_passDepth (⟨r, flowsTo r s H s.length⟩, p) = some (⟨(passLo r s p).1, passHi r s p⟩, (passLo r s p).2) := by
  obtain ⟨hr, hrl⟩ := h.lens
  obtain ⟨hj, ho, hf⟩ := Of_eq2 hr (show r.Reaches.length ≤ 1000 by omega) hp.place
  have h1 := hp.low
  have h2 := hp.le
  have h3 := hp.high
  have hl := pass_loop h hp (cnt p) 0 p.Hours.Low (dAt r s p.Place p.Hours.Low).Low (dAt r s p.Place p.Hours.Low).High (by omega) (by omega)
  simp only [F_river_stream_passDepth, hf, Option.bind_some, depthAt h hp h1 (show p.Hours.Low < H by omega), hl, Int.add_zero]
  rfl

/-! all passes -/
def shGo (r : TRiver) (s : List (List TBounds)) : List TPass → Int → Int → Int → Int → Int → Int × Int × Int × Int
  | [], _, h, lo, hi, p => (p, h, lo, hi)
  | x :: l, i, h, lo, hi, p => if (passLo r s x).1 < lo then shGo r s l (i + 1) (passLo r s x).2 (passLo r s x).1 (minmax false hi (passHi r s x)) i else shGo r s l (i + 1) h lo (minmax false hi (passHi r s x)) p
theorem short_loop (h : FcOk r s H) (e0 : Int) (way : List TPass) : ∀ (m : List TPass) (k : Nat) (hr lo hi p : Int), way.drop k = m → (∀ x ∈ m, PassOk r H x) → k + m.length ≤ 1000000 →
    loopC (L_river_Shallowest_1 (⟨r, flowsTo r s H s.length⟩, e0) way).step (hr, (k : Int), lo, hi, p) = some (shGo r s m k hr lo hi p)
  | [], k, hr, lo, hi, p, hd, _, _ => by
    have := drop_nil hd
    have e : (L_river_Shallowest_1 (⟨r, flowsTo r s H s.length⟩, e0) way).step (hr, (k : Int), lo, hi, p) = some (.inr (p, hr, lo, hi)) := by
      simp only [L_river_Shallowest_1, decide_eq_false (show ¬ (k : Int) < (way.length : Int) by omega), cond_false]
    rw [loopC_eq, e]
    rfl
  | x :: m, k, hr, lo, hi, p, hd, hx, hk => by
    obtain ⟨hlt, hg, hd'⟩ := drop_cons hd
    simp only [List.length_cons] at hk
    have ih := fun hr lo hi p => short_loop h e0 way m (k + 1) hr lo hi p hd' (fun y hy => hx y (by simp [hy])) (by omega)
    have e : (L_river_Shallowest_1 (⟨r, flowsTo r s H s.length⟩, e0) way).step (hr, (k : Int), lo, hi, p) =
        some (.inl (if (passLo r s x).1 < lo then ((passLo r s x).2, ((k + 1 : Nat) : Int), (passLo r s x).1, minmax false hi (passHi r s x), (k : Int)) else (hr, ((k + 1 : Nat) : Int), lo, minmax false hi (passHi r s x), p))) := by
      simp only [L_river_Shallowest_1, decide_eq_true (show (k : Int) < (way.length : Int) by omega), cond_true, idx?_nat hlt, Option.bind_some, hg, passDepth_eq h (hx x (by simp))]
      rw [wr_nat (by omega)]
      by_cases c : (passLo r s x).1 < lo
      · rw [decide_eq_true c, if_pos c]; rfl
      · rw [decide_eq_false c, if_neg c]; rfl
    rw [loopC_eq, e, shGo, show ((k : Int) + 1) = ((k + 1 : Nat) : Int) by omega]
    by_cases c : (passLo r s x).1 < lo
    · rw [if_pos c, if_pos c]; exact ih _ _ _ _
    · rw [if_neg c, if_neg c]; exact ih _ _ _ _
theorem dAt_le (h : FcOk r s H) {p : TPass} (hp : PassOk r H p) (k : Int) : 0 ≤ (dAt r s p.Place k).Low ∧ (dAt r s p.Place k).Low ≤ 10000 ∧ 0 ≤ (dAt r s p.Place k).High ∧ (dAt r s p.Place k).High ≤ 10000 := by
  obtain ⟨hr, hrl⟩ := h.lens
  obtain ⟨hj, _, _⟩ := Of_eq2 hr (show r.Reaches.length ≤ 1000 by omega) hp.place
  exact depth_le h.river hj
/-- Where the start does not matter. -/
theorem shGo_start (h : FcOk r s H) {way : List TPass} (hw : ∀ x ∈ way, PassOk r H x) (hn : way ≠ []) (i : Int) : shGo r s way i 0 9223372036854775807 9223372036854775807 0 = shGo r s way i 0 1000000 1000000 0 := by
  match way, hn, hw with
  | x :: m, _, hw =>
    have hp := hw x (by simp)
    have hd := dAt_le h hp
    have h1 := scanLo_le (fun k => ⟨(hd k).1, (hd k).2.1⟩) (cnt x) x.Hours.Low (dAt r s x.Place x.Hours.Low).Low x.Hours.Low (hd _).1 (hd _).2.1
    have h2 := scanHi_le (fun k => ⟨(hd k).2.2.1, (hd k).2.2.2⟩) (cnt x) x.Hours.Low (dAt r s x.Place x.Hours.Low).High (hd _).2.2.1 (hd _).2.2.2
    have h1 : 0 ≤ (passLo r s x).1 ∧ (passLo r s x).1 ≤ 10000 := h1
    have h2 : 0 ≤ passHi r s x ∧ passHi r s x ≤ 10000 := h2
    simp only [shGo]
    rw [if_pos (by omega), if_pos (by omega)]
    have e1 : minmax false 9223372036854775807 (passHi r s x) = passHi r s x := by simp only [minmax]; split <;> (try split) <;> simp_all <;> omega
    have e2 : minmax false 1000000 (passHi r s x) = passHi r s x := by simp only [minmax]; split <;> (try split) <;> simp_all <;> omega
    rw [e1, e2]
end
set_option maxHeartbeats 1000000

theorem wayGo_all {r : TRiver} {H : Nat} : ∀ {l : List TPass}, wayGo r H l = 0 → ∀ p ∈ l, PassOk r H p
  | [], _, p, hp => by cases hp
  | x :: l, h, p, hp => by
    rw [wayGo] at h
    by_cases c : passErr r H x = 0
    · rw [if_pos c] at h
      rcases List.mem_cons.1 hp with rfl | hp
      · exact passOk_of c
      · exact wayGo_all h p hp
    · rw [if_neg c] at h
      exact absurd h c
theorem wayErr_ok {r : TRiver} {H : Nat} {l : List TPass} (h : wayErr r H l = 0) : l ≠ [] ∧ ∀ p ∈ l, PassOk r H p := by
  unfold wayErr at h
  split at h
  · cases h
  · next h0 =>
    split at h
    · cases h
    · exact ⟨fun e => h0 (by rw [e]; rfl), wayGo_all h⟩
theorem Shallowest_err {r : TRiver} {s : List (List TBounds)} (hz : startErr r s ≠ 0) (hs : ∀ x ∈ s, x.length ≤ 1000000) (way : List TPass) : F_river_Shallowest (r, s, way) = some (⟨0, 0⟩, 0, 0, startErr r s) := by
  simp only [F_river_Shallowest, run_err hz hs, Option.bind_some, show (startErr r s != 0) = true by simpa using hz, cond_true]
def leastOf (r : TRiver) (s : List (List TBounds)) (way : List TPass) : Int × Int × Int × Int := shGo r s way 0 0 1000000 1000000 0
theorem Shallowest_eq {r : TRiver} {s : List (List TBounds)} {H : Nat} (h : FcOk r s H) (hz : startErr r s = 0) (hs : ∀ x ∈ s, x.length ≤ 1000000) {way : List TPass} (hw : way.length ≤ 1000) :
    F_river_Shallowest (r, s, way) = some (if wayErr r H way = 0 then (⟨(leastOf r s way).2.2.1, (leastOf r s way).2.2.2⟩, (leastOf r s way).1, (leastOf r s way).2.1, 0) else (⟨0, 0⟩, 0, 0, wayErr r H way)) := by
  obtain ⟨hr, hrl⟩ := h.lens
  have hm := h.most
  have hln := h.len
  have hb := h.bounds
  have hp := h.pos
  have hhr : F_river_stream_hours ⟨r, flowsTo r s H s.length⟩ = some (H : Int) := by
    simp only [F_river_stream_hours]
    rw [show (0 : Int) = ((0 : Nat) : Int) from rfl, idx?_nat (by rw [flowsTo_length]; omega), flowsTo_get]
    simp only [Option.bind_some, rowOf_length]
  have hcw := checkWay_eq (r := r) (way := way) (show H ≤ 1000 by omega) hr (show r.Reaches.length ≤ 1000 by omega) hhr hw
  simp only [F_river_Shallowest, run_eq h hz hs, Option.bind_some, bne_self_eq_false, cond_false, hcw]
  by_cases c : wayErr r H way = 0
  · obtain ⟨w1, w2⟩ := wayErr_ok c
    have hloop : loopC (L_river_Shallowest_1 (⟨r, flowsTo r s H s.length⟩, 0) way).step (0, 0, 9223372036854775807, 9223372036854775807, 0) = some (leastOf r s way) := by
      have := short_loop h 0 way way 0 0 9223372036854775807 9223372036854775807 0 rfl w2 (by omega)
      rw [show (((0 : Nat) : Int)) = 0 from rfl, shGo_start h w2 w1] at this
      exact this
    rw [if_pos c, c]
    simp only [bne_self_eq_false, cond_false, hloop, Option.bind_some]
  · rw [if_neg c, show (wayErr r H way != 0) = true by simpa using c]
    rfl
set_option maxHeartbeats 1000000

theorem scanLo_spec (d : Int → TBounds) : ∀ (n : Nat) (k M hm : Int),
    (scanLo d n k M hm = (M, hm) ∧ ∀ x, k ≤ x → x < k + n → M ≤ (d x).Low) ∨
    (k ≤ (scanLo d n k M hm).2 ∧ (scanLo d n k M hm).2 < k + n ∧ (d (scanLo d n k M hm).2).Low = (scanLo d n k M hm).1 ∧ (scanLo d n k M hm).1 < M ∧
      (∀ x, k ≤ x → x < k + n → (scanLo d n k M hm).1 ≤ (d x).Low) ∧ ∀ x, k ≤ x → x < (scanLo d n k M hm).2 → (scanLo d n k M hm).1 < (d x).Low)
  | 0, k, M, hm => .inl ⟨rfl, fun x _ _ => by omega⟩
  | n + 1, k, M, hm => by
    simp only [scanLo]
    by_cases c : (d k).Low < M
    · rw [if_pos c]
      refine .inr ?_
      rcases scanLo_spec d n (k + 1) (d k).Low k with ⟨e, h⟩ | ⟨h1, h2, h3, h4, h5, h6⟩
      · rw [e]
        refine ⟨by simp, by simp; omega, rfl, c, fun x h0 h1 => ?_, fun x h0 h1 => ?_⟩
        · by_cases hx : x = k
          · subst hx; simp
          · exact h x (by omega) (by omega)
        · simp only at h1; omega
      · refine ⟨by omega, by omega, h3, by omega, fun x h0 h1 => ?_, fun x h0 h1 => ?_⟩
        · by_cases hx : x = k
          · subst hx; omega
          · exact h5 x (by omega) (by omega)
        · by_cases hx : x = k
          · subst hx; exact h4
          · exact h6 x (by omega) (by omega)
    · rw [if_neg c]
      rcases scanLo_spec d n (k + 1) M hm with ⟨e, h⟩ | ⟨h1, h2, h3, h4, h5, h6⟩
      · refine .inl ⟨e, fun x h0 h1 => ?_⟩
        by_cases hx : x = k
        · subst hx; omega
        · exact h x (by omega) (by omega)
      · refine .inr ⟨by omega, by omega, h3, h4, fun x h0 h1 => ?_, fun x h0 h1 => ?_⟩
        · by_cases hx : x = k
          · subst hx; omega
          · exact h5 x (by omega) (by omega)
        · by_cases hx : x = k
          · subst hx; omega
          · exact h6 x (by omega) (by omega)
theorem scanHi_spec (d : Int → TBounds) : ∀ (n : Nat) (k M : Int), M ≤ scanHi d n k M ∧ (∀ x, k ≤ x → x < k + n → (d x).High ≤ scanHi d n k M) ∧ (scanHi d n k M = M ∨ ∃ x, k ≤ x ∧ x < k + n ∧ scanHi d n k M = (d x).High)
  | 0, k, M => ⟨Int.le_refl _, fun x _ _ => by omega, .inl rfl⟩
  | n + 1, k, M => by
    obtain ⟨h1, h2, h3⟩ := scanHi_spec d n (k + 1) (minmax true M (d k).High)
    have hm : M ≤ minmax true M (d k).High ∧ (d k).High ≤ minmax true M (d k).High ∧ (minmax true M (d k).High = M ∨ minmax true M (d k).High = (d k).High) := by
      simp only [minmax, if_true]
      split <;> omega
    simp only [scanHi]
    refine ⟨by omega, fun x h0 h4 => ?_, ?_⟩
    · by_cases hx : x = k
      · subst hx; omega
      · exact h2 x (by omega) (by omega)
    · rcases h3 with h3 | ⟨x, a, b, e⟩
      · rcases hm.2.2 with hm | hm
        · exact .inl (h3.trans hm)
        · exact .inr ⟨k, by omega, by omega, h3.trans hm⟩
      · exact .inr ⟨x, by omega, by omega, e⟩

section
variable {r : TRiver} {s : List (List TBounds)} {H : Nat}
theorem passLo_spec {p : TPass} (hp : PassOk r H p) : p.Hours.Low ≤ (passLo r s p).2 ∧ (passLo r s p).2 ≤ p.Hours.High ∧ (dAt r s p.Place (passLo r s p).2).Low = (passLo r s p).1 ∧
    (∀ x, p.Hours.Low ≤ x → x ≤ p.Hours.High → (passLo r s p).1 ≤ (dAt r s p.Place x).Low) ∧ ∀ x, p.Hours.Low ≤ x → x < (passLo r s p).2 → (passLo r s p).1 < (dAt r s p.Place x).Low := by
  have h1 := hp.le
  have e : (cnt p : Int) = p.Hours.High - p.Hours.Low + 1 := by unfold cnt; omega
  rcases scanLo_spec (dAt r s p.Place) (cnt p) p.Hours.Low (dAt r s p.Place p.Hours.Low).Low p.Hours.Low with ⟨q, h⟩ | ⟨h1, h2, h3, h4, h5, h6⟩
  · have q : passLo r s p = _ := q
    rw [q]
    exact ⟨Int.le_refl _, hp.le, rfl, fun x a b => h x a (by omega), fun x a b => by simp only at b; omega⟩
  · exact ⟨h1, by unfold passLo; omega, h3, fun x a b => h5 x a (by omega), h6⟩
theorem passHi_spec {p : TPass} (hp : PassOk r H p) : (∀ x, p.Hours.Low ≤ x → x ≤ p.Hours.High → (dAt r s p.Place x).High ≤ passHi r s p) ∧ ∃ x, p.Hours.Low ≤ x ∧ x ≤ p.Hours.High ∧ passHi r s p = (dAt r s p.Place x).High := by
  have h1 := hp.le
  have e : (cnt p : Int) = p.Hours.High - p.Hours.Low + 1 := by unfold cnt; omega
  obtain ⟨a, b, c⟩ := scanHi_spec (dAt r s p.Place) (cnt p) p.Hours.Low (dAt r s p.Place p.Hours.Low).High
  refine ⟨fun x h0 h2 => b x h0 (by omega), ?_⟩
  rcases c with c | ⟨x, h0, h2, h3⟩
  · exact ⟨p.Hours.Low, Int.le_refl _, hp.le, c⟩
  · exact ⟨x, h0, by omega, h3⟩
theorem shGo_lo : ∀ (l : List TPass) (i h lo hi p : Int),
    ((shGo r s l i h lo hi p).1 = p ∧ (shGo r s l i h lo hi p).2.1 = h ∧ (shGo r s l i h lo hi p).2.2.1 = lo ∧ ∀ x ∈ l, lo ≤ (passLo r s x).1) ∨
    (∃ (m : Nat) (hm : m < l.length), (shGo r s l i h lo hi p).1 = i + m ∧ (shGo r s l i h lo hi p).2.1 = (passLo r s l[m]).2 ∧ (shGo r s l i h lo hi p).2.2.1 = (passLo r s l[m]).1 ∧ (shGo r s l i h lo hi p).2.2.1 < lo ∧
      (∀ x ∈ l, (shGo r s l i h lo hi p).2.2.1 ≤ (passLo r s x).1) ∧ ∀ (n : Nat) (hn : n < l.length), n < m → (shGo r s l i h lo hi p).2.2.1 < (passLo r s l[n]).1)
  | [], i, h, lo, hi, p => .inl ⟨rfl, rfl, rfl, fun x hx => by cases hx⟩
  | y :: l, i, h, lo, hi, p => by
    simp only [shGo]
    by_cases c : (passLo r s y).1 < lo
    · rw [if_pos c]
      refine .inr ?_
      rcases shGo_lo l (i + 1) (passLo r s y).2 (passLo r s y).1 (minmax false hi (passHi r s y)) i with ⟨h1, h2, h3, h4⟩ | ⟨m, hm, h1, h2, h3, h4, h5, h6⟩
      · refine ⟨0, by simp, by rw [h1]; simp, h2, h3, by rw [h3]; exact c, fun x hx => ?_, fun n hn h0 => by omega⟩
        rw [h3]
        rcases List.mem_cons.1 hx with rfl | hx
        · exact Int.le_refl _
        · exact h4 x hx
      · refine ⟨m + 1, by simp; omega, by rw [h1]; omega, by simpa using h2, by simpa using h3, by omega, fun x hx => ?_, fun n hn h0 => ?_⟩
        · rcases List.mem_cons.1 hx with rfl | hx
          · omega
          · exact h5 x hx
        · cases n with
          | zero => simpa using h4
          | succ n => exact h6 n (by simpa using hn) (by omega)
    · rw [if_neg c]
      rcases shGo_lo l (i + 1) h lo (minmax false hi (passHi r s y)) p with ⟨h1, h2, h3, h4⟩ | ⟨m, hm, h1, h2, h3, h4, h5, h6⟩
      · refine .inl ⟨h1, h2, h3, fun x hx => ?_⟩
        rcases List.mem_cons.1 hx with rfl | hx
        · omega
        · exact h4 x hx
      · refine .inr ⟨m + 1, by simp; omega, by rw [h1]; omega, by simpa using h2, by simpa using h3, h4, fun x hx => ?_, fun n hn h0 => ?_⟩
        · rcases List.mem_cons.1 hx with rfl | hx
          · omega
          · exact h5 x hx
        · cases n with
          | zero => simp only [List.getElem_cons_zero]; omega
          | succ n => exact h6 n (by simpa using hn) (by omega)
theorem shGo_hi : ∀ (l : List TPass) (i h lo hi p : Int), (shGo r s l i h lo hi p).2.2.2 ≤ hi ∧ (∀ x ∈ l, (shGo r s l i h lo hi p).2.2.2 ≤ passHi r s x) ∧ ((shGo r s l i h lo hi p).2.2.2 = hi ∨ ∃ x ∈ l, (shGo r s l i h lo hi p).2.2.2 = passHi r s x)
  | [], i, h, lo, hi, p => ⟨Int.le_refl _, fun x hx => (by cases hx), .inl rfl⟩
  | y :: l, i, h, lo, hi, p => by
    have hm : minmax false hi (passHi r s y) ≤ hi ∧ minmax false hi (passHi r s y) ≤ passHi r s y ∧ (minmax false hi (passHi r s y) = hi ∨ minmax false hi (passHi r s y) = passHi r s y) := by
      simp only [minmax, Bool.false_eq_true, if_false]
      split <;> omega
    have key : ∀ i' h' lo' p', (shGo r s l i' h' lo' (minmax false hi (passHi r s y)) p').2.2.2 ≤ hi ∧ (∀ x ∈ y :: l, (shGo r s l i' h' lo' (minmax false hi (passHi r s y)) p').2.2.2 ≤ passHi r s x) ∧ ((shGo r s l i' h' lo' (minmax false hi (passHi r s y)) p').2.2.2 = hi ∨ ∃ x ∈ y :: l, (shGo r s l i' h' lo' (minmax false hi (passHi r s y)) p').2.2.2 = passHi r s x) := by
      intro i' h' lo' p'
      obtain ⟨h1, h2, h3⟩ := shGo_hi l i' h' lo' (minmax false hi (passHi r s y)) p'
      refine ⟨by omega, fun x hx => ?_, ?_⟩
      · rcases List.mem_cons.1 hx with rfl | hx
        · omega
        · exact h2 x hx
      · rcases h3 with h3 | ⟨x, hx, e⟩
        · rcases hm.2.2 with hm | hm
          · exact .inl (h3.trans hm)
          · exact .inr ⟨y, by simp, h3.trans hm⟩
        · exact .inr ⟨x, by simp [hx], e⟩
    simp only [shGo]
    split
    · exact key _ _ _ _
    · exact key _ _ _ _

/-- The least depth, and where and when it is. -/
structure Least (r : TRiver) (s : List (List TBounds)) (way : List TPass) (R : Int × Int × Int × Int) (m : Nat) : Prop where
  lt : m < way.length
  pass : R.1 = m
  hour : R.2.1 = (passLo r s way[m]).2
  lo : R.2.2.1 = (passLo r s way[m]).1
  all : ∀ x ∈ way, R.2.2.1 ≤ (passLo r s x).1
  first : ∀ (n : Nat) (hn : n < way.length), n < m → R.2.2.1 < (passLo r s way[n]).1
  hi : ∀ x ∈ way, R.2.2.2 ≤ passHi r s x
  some : ∃ x ∈ way, R.2.2.2 = passHi r s x
theorem passLo_small (h : FcOk r s H) {p : TPass} (hp : PassOk r H p) : 0 ≤ (passLo r s p).1 ∧ (passLo r s p).1 ≤ 10000 := by
  have hd := dAt_le h hp
  exact scanLo_le (fun k => ⟨(hd k).1, (hd k).2.1⟩) (cnt p) p.Hours.Low _ _ (hd _).1 (hd _).2.1
theorem passHi_small (h : FcOk r s H) {p : TPass} (hp : PassOk r H p) : 0 ≤ passHi r s p ∧ passHi r s p ≤ 10000 := by
  have hd := dAt_le h hp
  exact scanHi_le (fun k => ⟨(hd k).2.2.1, (hd k).2.2.2⟩) (cnt p) p.Hours.Low _ (hd _).2.2.1 (hd _).2.2.2
theorem least_of (h : FcOk r s H) {way : List TPass} (hw : ∀ x ∈ way, PassOk r H x) (hn : way ≠ []) : ∃ m, Least r s way (leastOf r s way) m := by
  obtain ⟨x0, hx0⟩ := List.exists_mem_of_ne_nil way hn
  have hs0 := passLo_small h (hw x0 hx0)
  have hh0 := passHi_small h (hw x0 hx0)
  obtain ⟨a1, a2, a3⟩ := shGo_hi (r := r) (s := s) way 0 0 1000000 1000000 0
  rcases shGo_lo (r := r) (s := s) way 0 0 1000000 1000000 0 with ⟨_, _, _, h4⟩ | ⟨m, hm, h1, h2, h3, h4, h5, h6⟩
  · have := h4 x0 hx0; omega
  · refine ⟨m, hm, by show (shGo r s way 0 0 1000000 1000000 0).1 = _; rw [h1]; omega, h2, h3, h5, h6, a2, ?_⟩
    rcases a3 with a3 | a3
    · have := a2 x0 hx0; rw [a3] at this; omega
    · exact a3

/-! Low is not above High -/
theorem levels_le {l : List TRateRow} (h : (pairs l).all pairOk = true) {a b : Nat} (hab : a ≤ b) (hb : b < l.length) : l[a].Level ≤ l[b].Level := by
  induction b with
  | zero => have : a = 0 := by omega
            subst this; exact Int.le_refl _
  | succ b ih =>
    by_cases c : a = b + 1
    · subst c; exact Int.le_refl _
    · have h1 := ih (by omega) (by omega)
      have h2 := levels_up h (a := b) (by omega)
      omega
theorem level_upper {l : List TRateRow} {n : Int} {up : Bool} (hc : curveOk l = true) (c : firstAt l n < l.length) : levelOf l n up ≤ l[firstAt l n].Level := by
  simp only [curveOk, Bool.and_eq_true, inB_iff] at hc
  obtain ⟨hl, hps, hrs⟩ := hc
  have ci : firstAt l n - 1 < l.length := by omega
  simp only [levelOf, List.getElem?_eq_getElem c, List.getElem?_eq_getElem ci]
  by_cases c0 : firstAt l n = 0
  · rw [if_pos c0]; exact Int.le_refl _
  · rw [if_neg c0]
    have f1 := first_lt (n := n) (show firstAt l n - 1 < firstAt l n by omega) ci
    have f2 := first_at c
    have lv := levels_up hps (a := firstAt l n - 1) (by omega)
    simp only [show firstAt l n - 1 + 1 = firstAt l n by omega] at lv
    have hd := part_le (dy := l[firstAt l n].Level - l[firstAt l n - 1].Level) (t := n - l[firstAt l n - 1].Flow) (dF := l[firstAt l n].Flow - l[firstAt l n - 1].Flow) (by omega) (by omega) (by omega) (by omega) up
    omega
theorem level_lower {l : List TRateRow} {n : Int} {up : Bool} (hc : curveOk l = true) (c0 : firstAt l n ≠ 0) (ci : firstAt l n - 1 < l.length) : l[firstAt l n - 1].Level ≤ levelOf l n up := by
  simp only [curveOk, Bool.and_eq_true, inB_iff] at hc
  obtain ⟨hl, hps, hrs⟩ := hc
  have hle := first_le l n
  by_cases c : firstAt l n < l.length
  · simp only [levelOf, List.getElem?_eq_getElem c, List.getElem?_eq_getElem ci]
    rw [if_neg c0]
    have f1 := first_lt (n := n) (show firstAt l n - 1 < firstAt l n by omega) ci
    have f2 := first_at c
    have lv := levels_up hps (a := firstAt l n - 1) (by omega)
    simp only [show firstAt l n - 1 + 1 = firstAt l n by omega] at lv
    have hd := part_le (dy := l[firstAt l n].Level - l[firstAt l n - 1].Level) (t := n - l[firstAt l n - 1].Flow) (dF := l[firstAt l n].Flow - l[firstAt l n - 1].Flow) (by omega) (by omega) (by omega) (by omega) up
    omega
  · have ce : l[firstAt l n]? = none := List.getElem?_eq_none (by omega)
    simp only [levelOf, ce, List.getElem?_eq_getElem ci]
    exact Int.le_refl _
theorem level_mono {l : List TRateRow} {n n' : Int} (hc : curveOk l = true) (hn : n ≤ n') : levelOf l n false ≤ levelOf l n' true := by
  have hc' := hc
  simp only [curveOk, Bool.and_eq_true, inB_iff] at hc'
  obtain ⟨hl, hps, hrs⟩ := hc'
  have hle := first_le l n
  have hle' := first_le l n'
  have hi : firstAt l n ≤ firstAt l n' := by
    by_cases c : firstAt l n' < firstAt l n
    · have a := first_lt c (by omega)
      have b := first_at (l := l) (n := n') (by omega)
      omega
    · omega
  by_cases c : firstAt l n = firstAt l n'
  · by_cases c1 : firstAt l n < l.length
    · by_cases c0 : firstAt l n = 0
      · have ci : firstAt l n - 1 < l.length := by omega
        simp only [levelOf, ← c, List.getElem?_eq_getElem c1, List.getElem?_eq_getElem ci]
        rw [if_pos c0, if_pos c0]
        exact Int.le_refl _
      · have ci : firstAt l n - 1 < l.length := by omega
        simp only [levelOf, ← c, List.getElem?_eq_getElem c1, List.getElem?_eq_getElem ci]
        rw [if_neg c0, if_neg c0]
        have f1 := first_lt (n := n) (show firstAt l n - 1 < firstAt l n by omega) ci
        have f2 := first_at c1
        have lv := levels_up hps (a := firstAt l n - 1) (by omega)
        simp only [show firstAt l n - 1 + 1 = firstAt l n by omega] at lv
        have hF : 0 < l[firstAt l n].Flow - l[firstAt l n - 1].Flow := by omega
        have hm : (l[firstAt l n].Level - l[firstAt l n - 1].Level) * (n - l[firstAt l n - 1].Flow) ≤ (l[firstAt l n].Level - l[firstAt l n - 1].Level) * (n' - l[firstAt l n - 1].Flow) := Int.mul_le_mul_of_nonneg_left (by omega) (by omega)
        generalize (l[firstAt l n].Level - l[firstAt l n - 1].Level) * (n - l[firstAt l n - 1].Flow) = u at hm ⊢
        generalize (l[firstAt l n].Level - l[firstAt l n - 1].Level) * (n' - l[firstAt l n - 1].Flow) = v at hm ⊢
        generalize l[firstAt l n].Flow - l[firstAt l n - 1].Flow = w at hF ⊢
        simp only [divB, Bool.false_eq_true, if_false, if_true]
        have e1 : u / w ≤ v / w := Int.ediv_le_ediv hF hm
        have e2 : v / w ≤ -((-v) / w) := by
          have a1 := Int.mul_ediv_add_emod v w
          have a2 := Int.mul_ediv_add_emod (-v) w
          have b1 := Int.emod_nonneg v (show w ≠ 0 by omega)
          have b2 := Int.emod_nonneg (-v) (show w ≠ 0 by omega)
          have : w * (v / w + (-v) / w) ≤ 0 := by rw [Int.mul_add]; omega
          have : v / w + (-v) / w ≤ 0 := by
            rcases Int.lt_or_le 0 (v / w + (-v) / w) with h | h
            · have := Int.mul_pos hF h; omega
            · exact h
          omega
        omega
    · have ce : firstAt l n = l.length := by omega
      have ci : l.length - 1 < l.length := by omega
      simp only [levelOf, ← c, ce, List.getElem?_eq_none (Nat.le_refl l.length), List.getElem?_eq_getElem ci]
      exact Int.le_refl _
  · have h1 := level_upper (n := n) (up := false) hc (by omega)
    have h2 := level_lower (n := n') (up := true) hc (by omega) (by omega)
    have h3 := levels_le hps (a := firstAt l n) (b := firstAt l n' - 1) (by omega) (by omega)
    omega
theorem shoal_ord {x : TShoal} (hb : x.Bed.Low ≤ x.Bed.High) (hg : x.Grow.Low ≤ x.Grow.High) (h : Int) : shoalLo x h ≤ shoalHi x h := by
  have h0 : 0 ≤ minmax true 0 (h - x.Sounded) := by simp only [minmax, if_true]; split <;> omega
  have hm := Int.mul_le_mul_of_nonneg_right hg h0
  unfold shoalLo shoalHi
  omega
theorem bedGo_ord {place h : Int} : ∀ {l : List TShoal} {a b : Int}, (∀ x ∈ l, x.Bed.Low ≤ x.Bed.High ∧ x.Grow.Low ≤ x.Grow.High) → a ≤ b → (bedGo place h l a b).1 ≤ (bedGo place h l a b).2
  | [], a, b, _, hab => hab
  | x :: l, a, b, hx, hab => by
    have ho := shoal_ord (hx x (by simp)).1 (hx x (by simp)).2 h
    simp only [bedGo]
    split
    · refine bedGo_ord (fun y hy => hx y (by simp [hy])) ?_
      simp only [minmax, if_true]
      split <;> split <;> omega
    · exact bedGo_ord (fun y hy => hx y (by simp [hy])) hab
theorem dAt_ord (h : FcOk r s H) {p : TPass} (hp : PassOk r H p) {k : Int} (h0 : 0 ≤ k) (h1 : k < H) : (dAt r s p.Place k).Low ≤ (dAt r s p.Place k).High := by
  obtain ⟨hr, hrl⟩ := h.lens
  obtain ⟨hj, _, _⟩ := Of_eq2 hr (show r.Reaches.length ≤ 1000 by omega) hp.place
  obtain ⟨kn, rfl⟩ := Int.eq_ofNat_of_zero_le h0
  have hk := h.bounds.2.2 _ hj
  have hf := h.flow_upTo (reachNo r p.Place) kn hj
  have hl := level_mono (reachOk_curve hk) hf.2.1
  have hriv := h.river
  simp only [riverOk, Bool.and_eq_true, inB_iff, List.all_eq_true, decide_eq_true_eq] at hriv
  have hsh : ∀ x ∈ r.Shoals, x.Bed.Low ≤ x.Bed.High ∧ x.Grow.Low ≤ x.Grow.High := by
    intro x hx
    have := hriv.2.2.2 x hx
    simp only [shoalOk, vB, Bool.and_eq_true, inB_iff, decide_eq_true_eq] at this
    omega
  have hb : (reachAt r (reachNo r p.Place)).Bottom.Low ≤ (reachAt r (reachNo r p.Place)).Bottom.High := by
    simp only [reachOk, vB, Bool.and_eq_true, inB_iff, decide_eq_true_eq] at hk
    omega
  have ho := bedGo_ord (place := p.Place) (h := (kn : Int)) hsh hb
  simp only [dAt, depthOf, levAt, levB, bedOf, minmax, if_true]
  (repeat' split) <;> omega
theorem least_ord (h : FcOk r s H) {way : List TPass} (hw : ∀ x ∈ way, PassOk r H x) {R : Int × Int × Int × Int} {m : Nat} (hl : Least r s way R m) : 0 ≤ R.2.2.1 ∧ R.2.2.1 ≤ R.2.2.2 := by
  obtain ⟨x, hx, e⟩ := hl.some
  have hp := hw x hx
  obtain ⟨k, k0, k1, e2⟩ := (passHi_spec (s := s) hp).2
  have a := hl.all x hx
  have b := (passLo_spec (s := s) hp).2.2.2.1 k k0 k1
  have c := dAt_ord h hp (k := k) (by have := hp.low; omega) (by have := hp.high; omega)
  have d := passLo_small h (hw _ (List.getElem_mem hl.lt))
  have f := hl.lo
  omega
/-- The least depth of two parts. -/
theorem least_parts {way u v : List TPass} {R A B : Int × Int × Int × Int} {m a b : Nat} (hR : Least r s way R m) (hA : Least r s u A a) (hB : Least r s v B b) (e : way = u ++ v) : R.2.2.1 = minmax false A.2.2.1 B.2.2.1 ∧ R.2.2.2 = minmax false A.2.2.2 B.2.2.2 := by
  have inA : ∀ x ∈ u, x ∈ way := fun x hx => by rw [e]; simp [hx]
  have inB' : ∀ x ∈ v, x ∈ way := fun x hx => by rw [e]; simp [hx]
  have a1 := hR.all _ (inA _ (List.getElem_mem hA.lt))
  have a2 := hR.all _ (inB' _ (List.getElem_mem hB.lt))
  rw [← hA.lo] at a1
  rw [← hB.lo] at a2
  have hm : way[m]'hR.lt ∈ u ∨ way[m]'hR.lt ∈ v := by
    have hsp : ∀ y, y ∈ way → y ∈ u ∨ y ∈ v := fun y hy => by rw [e] at hy; exact List.mem_append.1 hy
    exact hsp _ (List.getElem_mem hR.lt)
  have a3 : A.2.2.1 ≤ R.2.2.1 ∨ B.2.2.1 ≤ R.2.2.1 := by
    rw [hR.lo]
    rcases hm with hm | hm
    · exact .inl (hA.all _ hm)
    · exact .inr (hB.all _ hm)
  obtain ⟨xa, ha, ea⟩ := hA.some
  obtain ⟨xb, hb, eb⟩ := hB.some
  obtain ⟨xr, hr, er⟩ := hR.some
  have b1 := hR.hi _ (inA _ ha)
  have b2 := hR.hi _ (inB' _ hb)
  have b3 : A.2.2.2 ≤ R.2.2.2 ∨ B.2.2.2 ≤ R.2.2.2 := by
    rw [er]
    rw [e] at hr
    rcases List.mem_append.1 hr with hr | hr
    · exact .inl (hA.hi _ hr)
    · exact .inr (hB.hi _ hr)
  constructor <;> simp only [minmax, Bool.false_eq_true, if_false] <;> split <;> omega
/-- With more hours. -/
theorem least_wider {way : List TPass} {W : TPass → TPass} (hw : ∀ x ∈ way, PassOk r H x) (hw2 : ∀ x ∈ way, PassOk r H (W x)) (hW : ∀ x ∈ way, (W x).Place = x.Place ∧ (W x).Hours.Low ≤ x.Hours.Low ∧ x.Hours.High ≤ (W x).Hours.High) {R Z : Int × Int × Int × Int} {m z : Nat} (hR : Least r s way R m) (hZ : Least r s (way.map W) Z z) :
    Z.2.2.1 ≤ R.2.2.1 ∧ R.2.2.2 ≤ Z.2.2.2 := by
  have lo : ∀ x ∈ way, (passLo r s (W x)).1 ≤ (passLo r s x).1 := by
    intro x hx
    obtain ⟨a1, a2, a3, _, _⟩ := passLo_spec (s := s) (hw x hx)
    obtain ⟨_, _, _, b4, _⟩ := passLo_spec (s := s) (hw2 x hx)
    obtain ⟨c1, c2, c3⟩ := hW x hx
    have := b4 (passLo r s x).2 (by omega) (by omega)
    rw [c1, a3] at this
    exact this
  have hi : ∀ x ∈ way, passHi r s x ≤ passHi r s (W x) := by
    intro x hx
    obtain ⟨_, k, k0, k1, e⟩ := passHi_spec (s := s) (hw x hx)
    obtain ⟨b1, _⟩ := passHi_spec (s := s) (hw2 x hx)
    obtain ⟨c1, c2, c3⟩ := hW x hx
    have := b1 k (by omega) (by omega)
    rw [c1, ← e] at this
    exact this
  constructor
  · have hx := List.getElem_mem hR.lt
    have := hZ.all _ (List.mem_map_of_mem (f := W) hx)
    have := lo _ hx
    rw [hR.lo]
    omega
  · obtain ⟨y, hy, e⟩ := hZ.some
    obtain ⟨x, hx, rfl⟩ := List.mem_map.1 hy
    have := hR.hi x hx
    have := hi x hx
    omega
end
set_option maxHeartbeats 1000000

section
variable {r : TRiver} {s : List (List TBounds)} {H : Nat}
theorem passErr_of {p : TPass} (hp : PassOk r H p) : passErr r H p = 0 := by
  have h1 := hp.low
  have h2 := hp.le
  have h3 := hp.high
  unfold passErr
  rw [if_pos hp.place, if_pos]
  simp only [vB, Bool.and_eq_true, inB_iff, decide_eq_true_eq]
  omega
theorem wayGo_of : ∀ {l : List TPass}, (∀ x ∈ l, PassOk r H x) → wayGo r H l = 0
  | [], _ => rfl
  | x :: l, h => by rw [wayGo, if_pos (passErr_of (h x (by simp)))]; exact wayGo_of fun y hy => h y (by simp [hy])
theorem wayErr_of {l : List TPass} (h : ∀ x ∈ l, PassOk r H x) (h0 : l.length ≠ 0) (h1 : l.length ≤ 60) : wayErr r H l = 0 := by
  unfold wayErr
  rw [if_neg h0, if_neg (by omega)]
  exact wayGo_of h
theorem wayGo_37 : ∀ (l : List TPass), wayGo r H l = 0 ∨ wayGo r H l = 3 ∨ wayGo r H l = 7
  | [] => .inl rfl
  | x :: l => by
    rw [wayGo]
    split
    · exact wayGo_37 l
    · unfold passErr
      split
      · split
        · exact .inl rfl
        · exact .inr (.inl rfl)
      · exact .inr (.inr rfl)
theorem DepthAt (h : FcOk r s H) (hz : startErr r s = 0) (hs : ∀ x ∈ s, x.length ≤ 1000000) {p : TPass} (hp : PassOk r H p) {k : Int} (h0 : 0 ≤ k) (h1 : k < H) : F_river_Depth (r, s, p.Place, k) = some (dAt r s p.Place k, 0) := by
  obtain ⟨hr, hrl⟩ := h.lens
  obtain ⟨_, _, d3⟩ := Depth_eq h hz hs p.Place k
  obtain ⟨j, hj, ho, hd⟩ := d3 hp.place (by rw [inB_iff]; omega)
  obtain ⟨_, ho2, _⟩ := Of_eq2 hr (show r.Reaches.length ≤ 1000 by omega) hp.place
  rw [ho2] at ho
  have : (reachNo r p.Place : Int) = j := Option.some.inj ho
  have : reachNo r p.Place = j := by omega
  subst this
  exact hd

/-- A pass with more hours. -/
def widen (H : Nat) (c : Int) (p : TPass) : TPass := ⟨p.Place, ⟨minmax true 0 (p.Hours.Low - Int.tmod c 5), minmax false ((H : Int) - 1) (p.Hours.High + Int.tmod c 4)⟩⟩
theorem widen_ok {c : Int} (hc : 0 ≤ c) {p : TPass} (hp : PassOk r H p) : PassOk r H (widen H c p) ∧ (widen H c p).Place = p.Place ∧ (widen H c p).Hours.Low ≤ p.Hours.Low ∧ p.Hours.High ≤ (widen H c p).Hours.High := by
  have h1 := hp.low
  have h2 := hp.le
  have h3 := hp.high
  have t5 : 0 ≤ Int.tmod c 5 := Int.tmod_nonneg 5 hc
  have t4 : 0 ≤ Int.tmod c 4 := Int.tmod_nonneg 4 hc
  have a1 : 0 ≤ (widen H c p).Hours.Low ∧ (widen H c p).Hours.Low ≤ p.Hours.Low := by simp only [widen, minmax, if_true]; split <;> omega
  have a2 : p.Hours.High ≤ (widen H c p).Hours.High ∧ (widen H c p).Hours.High < H := by simp only [widen, minmax, Bool.false_eq_true, if_false]; split <;> omega
  exact ⟨⟨hp.place, a1.1, by omega, a2.2⟩, rfl, a1.2, a2.1⟩
theorem map_take_set {α : Type} (l : List α) (W : α → α) (k : Nat) (h : k < l.length) : ((l.map W).take k ++ l.drop k).set k (W l[k]) = (l.map W).take (k + 1) ++ l.drop (k + 1) := by
  have hl : ((l.map W).take k).length = k := by simp; omega
  rw [List.set_append_right _ _ (by omega), hl, Nat.sub_self, List.drop_eq_getElem_cons h, List.set_cons_zero, List.take_succ_eq_append_getElem (by simpa using h)]
  simp
end
end Go.Ev
/- Mathematics of earlier texts, as far as this text's functions go. -/
set_option linter.unusedVariables false
set_option linter.unusedSimpArgs false
namespace Go.Ev.Tw
structure Tthalweglaw03_Truth where
  Start : Int
  Speeds : List Int
  Wait : List Int
set_option maxHeartbeats 2000000
theorem every_int {l : List Int} {p : Int → Option Bool} {q : Int → Bool} {g : FuncId} {caps : List V} (hp : ∀ x ∈ l, p x = some (q x)) (hl : l.length ≤ 4611686018427387904) : F_numbers_Every_int (l, p, g, caps) = some (l.all q) := by
  unfold F_numbers_Every_int
  simp only
  rw [show (0 : Int) = ((0 : Nat) : Int) from rfl, loop_list l (fun k => (k : Int)) q (e := .inl ()) (f := .inr false)]
  · cases l.all q <;> rfl
  · intro k hk
    simp only [L_numbers_Every_int_1, Int.ofNat_lt, hk, decide_true, cond_true, idx?_nat hk, Option.bind_some, hp _ (List.getElem_mem hk), wr_nat (show k < 9223372036854775807 by omega)]
    cases q l[k] <;> rfl
  · simp [L_numbers_Every_int_1]
theorem bif_and (a b : Bool) : (bif a then some b else some false) = some (a && b) := by cases a <;> rfl
theorem bif_not (a b : Bool) : (bif (!a) then some false else some b) = some (a && b) := by cases a <;> rfl

theorem within1_eq (n a b : Int) : F_numbers_Within_1 (n, a, b) = some (inB n a b) := by
  simp only [F_numbers_Within_1, bif_and, inB]
theorem within_eq (a b : Int) (l : List Int) (hl : l.length ≤ 4611686018427387904) : F_numbers_Within (a, b, l) = some (l.all fun n => inB n a b) := by
  simp only [F_numbers_Within]
  rw [every_int (q := fun n => inB n a b) (fun x _ => within1_eq x a b) hl]
  rfl
theorem within1 (a b n : Int) : F_numbers_Within (a, b, [n]) = some (inB n a b) := by rw [within_eq _ _ _ (by simp)]; simp
theorem within2 (a b n m : Int) : F_numbers_Within (a, b, [n, m]) = some (inB n a b && inB m a b) := by rw [within_eq _ _ _ (by simp)]; simp
def vB (b : TBounds) (x y : Int) : Bool := decide (b.Low ≤ b.High) && (inB b.Low x y && inB b.High x y)
theorem valid_eq (b : TBounds) (x y : Int) : F_numbers_Valid (b, x, y) = some (vB b x y) := by
  simp only [F_numbers_Valid, within2, Option.bind_some, bif_and, vB]
theorem drop_cons {α : Type} {l m : List α} {k : Nat} {x : α} (h : l.drop k = x :: m) : ∃ hk : k < l.length, l[k] = x ∧ l.drop (k + 1) = m := by
  have hk : k < l.length := by
    rcases Nat.lt_or_ge k l.length with e | e
    · exact e
    · rw [List.drop_of_length_le e] at h; cases h
  rw [List.drop_eq_getElem_cons hk] at h
  cases h
  exact ⟨hk, rfl, rfl⟩
theorem drop_nil {α : Type} {l : List α} {k : Nat} (h : l.drop k = []) : l.length ≤ k := by
  have := congrArg List.length h
  simpa using Nat.le_of_sub_eq_zero (by simpa using this)

theorem tdiv_tmod {a b : Int} (hb : 0 < b) : b * a.tdiv b + a.tmod b = a ∧ -b < a.tmod b ∧ a.tmod b < b ∧ (0 ≤ a → 0 ≤ a.tmod b) ∧ (a ≤ 0 → a.tmod b ≤ 0) := by
  refine ⟨Int.mul_tdiv_add_tmod a b, ?_, ?_, ?_, ?_⟩
  · rcases Int.le_total 0 a with h | h
    · have := Int.tmod_nonneg b h; omega
    · have h1 := Int.tmod_nonneg b (a := -a) (by omega)
      have h2 := Int.tmod_lt_of_pos (-a) hb
      rw [Int.neg_tmod] at h1 h2; omega
  · exact Int.tmod_lt_of_pos a hb
  · exact fun h => Int.tmod_nonneg b h
  · intro h
    have h1 := Int.tmod_nonneg b (a := -a) (by omega)
    rw [Int.neg_tmod] at h1; omega
theorem tdiv_le {a b : Int} (hb : 0 < b) : -a.natAbs ≤ a.tdiv b ∧ a.tdiv b ≤ a.natAbs := by
  have h : (a.tdiv b).natAbs ≤ a.natAbs := by
    rw [Int.natAbs_tdiv]; exact Nat.div_le_self _ _
  omega
theorem div_of {a b q r : Int} (hb : 0 < b) (h : r + b * q = a) (h0 : 0 ≤ r) (h1 : r < b) : a / b = q := ((Int.ediv_emod_unique hb).2 ⟨h, h0, h1⟩).1

theorem Down_eq {a b : Int} (hb : 0 < b) (ha : a.natAbs ≤ 4611686018427387904) : F_numbers_Down (a, b) = some (a / b) := by
  obtain ⟨h1, h2, h3, h4, h5⟩ := tdiv_tmod (a := a) hb
  have h6 := tdiv_le (a := a) hb
  simp only [F_numbers_Down, nz_of (show b ≠ 0 by omega), Option.bind_some]
  rw [wr_in (n := a.tdiv b) (by omega) (by omega)]
  by_cases c : a.tmod b < 0
  · rw [wr_in (n := a.tdiv b - 1) (by omega) (by omega), div_of (q := a.tdiv b - 1) (r := a.tmod b + b) hb (by rw [Int.mul_sub]; omega) (by omega) (by omega)]
    simp [c]
  · rw [div_of (q := a.tdiv b) (r := a.tmod b) hb (by omega) (by omega) (by omega)]
    simp [c]
theorem div_bound {a b : Int} (hb : 0 < b) : -a.natAbs ≤ a / b ∧ a / b ≤ a.natAbs := by
  have := Int.natAbs_ediv_le_natAbs a b
  omega
theorem Up_eq {a b : Int} (hb : 0 < b) (ha : a.natAbs ≤ 4611686018427387904) : F_numbers_Up (a, b) = some (-((-a) / b)) := by
  have h := div_bound (a := -a) hb
  simp only [F_numbers_Up]
  rw [wr_in (n := 0 - a) (by omega) (by omega), show 0 - a = -a by omega, Down_eq hb (by omega)]
  simp only [Option.bind_some]
  rw [wr_in (by omega) (by omega)]
  simp
theorem loop_range {S E : Type} {step : S → Option (S ⊕ E)} (n : Nat) (st : Nat → S) (q : Nat → Bool) {e f : E} (h : ∀ k, k < n → step (st k) = some (if q k then .inl (st (k + 1)) else .inr f)) (he : step (st n) = some (.inr e)) :
    loopC step (st 0) = some (if (List.range n).all q then e else f) := by
  have := loop_list (List.range n) st q (e := e) (f := f) (step := step) (by intro k hk; simpa using h k (by simpa using hk)) (by simpa using he)
  exact this

theorem loop_range0 {E : Type} {step : Int → Option (Int ⊕ E)} (n : Nat) (q : Nat → Bool) {e f : E} (h : ∀ k : Nat, k < n → step (k : Int) = some (if q k then .inl ((k + 1 : Nat) : Int) else .inr f)) (he : step (n : Int) = some (.inr e)) : loopC step 0 = some (if (List.range n).all q then e else f) := loop_range n (fun k : Nat => (k : Int)) q h he
theorem loop_list0 {α E : Type} {step : Int → Option (Int ⊕ E)} (l : List α) (q : α → Bool) {e f : E} (h : ∀ (k : Nat) (hk : k < l.length), step (k : Int) = some (if q l[k] then .inl ((k + 1 : Nat) : Int) else .inr f)) (he : step (l.length : Int) = some (.inr e)) : loopC step 0 = some (if l.all q then e else f) := loop_list l (fun k : Nat => (k : Int)) q h he

theorem mulB {a b : Int} {A B : Nat} (ha : a.natAbs ≤ A) (hb : b.natAbs ≤ B) : (a * b).natAbs ≤ A * B := by
  rw [Int.natAbs_mul]; exact Nat.mul_le_mul ha hb

theorem mid_eq {lo hi : Nat} (h : lo ≤ hi) (hh : hi ≤ 1000000) : wr (Int.fdiv (IntKind.wrap .u64 (wr ((lo : Int) + (hi : Int)))) 2) = (((lo + hi) / 2 : Nat) : Int) := by
  rw [wr_in (n := (lo : Int) + (hi : Int)) (by omega) (by omega)]
  have e : IntKind.wrap .u64 ((lo : Int) + (hi : Int)) = ((lo + hi : Nat) : Int) := by
    simp [IntKind.wrap, IntKind.bits, IntKind.signed]; omega
  rw [e, show Int.fdiv ((lo + hi : Nat) : Int) 2 = (((lo + hi) / 2 : Nat) : Int) by rw [Int.fdiv_eq_ediv_of_nonneg _ (by omega)]; omega, wr_in (by omega) (by omega)]
set_option maxHeartbeats 2000000

set_option maxHeartbeats 2000000

/-- What is divided: v is the speed, q is power times grip, w is mass times the speed's square. -/
def nS (v q w : Int) : Int := 4320 * (v * q) + 1000 * w
def loS (v q w : Int) : Int := nS v q w / (2592 * q)
def hiS (v q w : Int) : Int := -((-nS v q w) / (2592 * q))
def stopB (m p : Int) (g : TBounds) (v : Int) : TBounds := ⟨loS v (p * g.High) (m * (v * v)), hiS v (p * g.Low) (m * (v * v))⟩

theorem pos_mul {a b A B : Int} (ha : 0 ≤ a ∧ a ≤ A) (hb : 0 ≤ b ∧ b ≤ B) : 0 ≤ a * b ∧ a * b ≤ A * B := by
  refine ⟨Int.mul_nonneg ha.1 hb.1, Int.mul_le_mul ha.2 hb.2 hb.1 (Int.le_trans ha.1 ha.2)⟩

structure Sp (m p g v : Int) : Prop where
  m : 0 ≤ m ∧ m ≤ 400000
  p : 1 ≤ p ∧ p ≤ 20000
  g : 1 ≤ g ∧ g ≤ 1000
  v : 0 ≤ v ∧ v ≤ 400
theorem Sp.q {m p g v : Int} (h : Sp m p g v) : 1 ≤ p * g ∧ p * g ≤ 20000000 := by
  have h1 := pos_mul (a := p - 1) (b := g - 1) (A := 19999) (B := 999) (by have := h.p; omega) (by have := h.g; omega)
  have h2 := pos_mul (a := p) (b := g) (A := 20000) (B := 1000) (by have := h.p; omega) (by have := h.g; omega)
  have h3 := h.p
  have h4 := h.g
  have e : (p - 1) * (g - 1) = p * g - p - g + 1 := by rw [Int.sub_mul, Int.mul_sub]; omega
  omega
theorem Sp.t {m p g v : Int} (h : Sp m p g v) : 0 ≤ v * (p * g) ∧ v * (p * g) ≤ 8000000000 := by
  have := pos_mul (a := v) (b := p * g) (A := 400) (B := 20000000) (by have := h.v; omega) (by have := h.q; omega)
  omega
theorem Sp.w {m p g v : Int} (h : Sp m p g v) : 0 ≤ m * (v * v) ∧ m * (v * v) ≤ 64000000000 := by
  have h1 := pos_mul (a := v) (b := v) (A := 400) (B := 400) (by have := h.v; omega) (by have := h.v; omega)
  have := pos_mul (a := m) (b := v * v) (A := 400000) (B := 160000) (by have := h.m; omega) (by omega)
  omega
theorem Sp.n {m p g v : Int} (h : Sp m p g v) : 0 ≤ nS v (p * g) (m * (v * v)) ∧ nS v (p * g) (m * (v * v)) ≤ 98560000000000 := by
  have := h.t
  have := h.w
  unfold nS
  omega
theorem den_wr {m p g v : Int} (h : Sp m p g v) : wr (wr (2592 * p) * g) = 2592 * (p * g) := by
  have := h.q
  have := h.p
  rw [wr_in (n := 2592 * p) (by omega) (by omega), Int.mul_assoc, wr_in (by omega) (by omega)]
theorem sq_wr {m p g v : Int} (h : Sp m p g v) : wr (wr (wr (m * 1000) * v) * v) = 1000 * (m * (v * v)) := by
  have h1 := h.m
  have h2 := h.w
  have h3 := pos_mul (a := m) (b := v) (A := 400000) (B := 400) (by omega) (by have := h.v; omega)
  rw [wr_in (n := m * 1000) (by omega) (by omega), show m * 1000 * v = 1000 * (m * v) by ac_rfl, wr_in (n := 1000 * (m * v)) (by omega) (by omega), show 1000 * (m * v) * v = 1000 * (m * (v * v)) by ac_rfl, wr_in (by omega) (by omega)]
theorem num_wr {m p g v : Int} (h : Sp m p g v) : wr (wr (wr (wr (wr (v * 5) * 864) * p) * g) + wr (wr (wr (m * 1000) * v) * v)) = nS v (p * g) (m * (v * v)) := by
  have h1 := h.v
  have h2 := h.t
  have h3 := pos_mul (a := v) (b := p) (A := 400) (B := 20000) (by omega) (by have := h.p; omega)
  have hw := h.w
  rw [sq_wr h, wr_in (n := v * 5) (by omega) (by omega), wr_in (n := v * 5 * 864) (by omega) (by omega), show v * 5 * 864 * p = 4320 * (v * p) by rw [show (4320 : Int) = 5 * 864 from rfl]; ac_rfl, wr_in (n := 4320 * (v * p)) (by omega) (by omega), show 4320 * (v * p) * g = 4320 * (v * (p * g)) by ac_rfl, wr_in (n := 4320 * (v * (p * g))) (by omega) (by omega)]
  exact wr_in (by omega) (by omega)
theorem hi_alt {n k : Int} (hk : 0 < k) : -((-n) / k) = (n + k - 1) / k := by
  have e := Int.emod_add_mul_ediv (-n) k
  have e1 := Int.emod_nonneg (-n) (show k ≠ 0 by omega)
  have e2 := Int.emod_lt_of_pos (-n) hk
  symm
  refine div_of (r := k - 1 - (-n) % k) hk ?_ (by omega) (by omega)
  rw [Int.mul_neg]
  omega

/-! more speed, more power, more mass -/
theorem hi_le {v q w c : Int} (hq : 0 < q) : hiS v q w ≤ c ↔ nS v q w ≤ c * (2592 * q) := by
  unfold hiS
  rw [show -(-nS v q w / (2592 * q)) ≤ c ↔ -c ≤ -nS v q w / (2592 * q) by omega, Int.le_ediv_iff_mul_le (by omega), Int.neg_mul]
  omega
theorem le_lo {v q w c : Int} (hq : 0 < q) : c ≤ loS v q w ↔ c * (2592 * q) ≤ nS v q w := Int.le_ediv_iff_mul_le (by omega)
theorem nS_mono {v v' q w w' : Int} (hq : 0 < q) (hv : v ≤ v') (hw : w ≤ w') : nS v q w ≤ nS v' q w' := by
  have := Int.mul_le_mul_of_nonneg_right hv (Int.le_of_lt hq)
  unfold nS
  omega
theorem hi_mono {v v' q w w' : Int} (hq : 0 < q) (hv : v ≤ v') (hw : w ≤ w') : hiS v q w ≤ hiS v' q w' := by
  rw [hi_le hq]
  exact Int.le_trans (nS_mono hq hv hw) ((hi_le hq).1 (Int.le_refl _))
theorem lo_mono {v v' q w w' : Int} (hq : 0 < q) (hv : v ≤ v') (hw : w ≤ w') : loS v q w ≤ loS v' q w' := by
  rw [le_lo hq]
  exact Int.le_trans ((le_lo hq).1 (Int.le_refl _)) (nS_mono hq hv hw)
/-- c times what divides, against what is divided: by how much c exceeds the way before the brakes. -/
theorem over {v q w c : Int} : nS v q w ≤ c * (2592 * q) ↔ 1000 * w ≤ (2592 * c - 4320 * v) * q := by
  unfold nS
  rw [Int.sub_mul, show c * (2592 * q) = 2592 * c * q by ac_rfl, show 4320 * (v * q) = 4320 * v * q by ac_rfl]
  omega
theorem under {v q w c : Int} : c * (2592 * q) ≤ nS v q w ↔ (2592 * c - 4320 * v) * q ≤ 1000 * w := by
  unfold nS
  rw [Int.sub_mul, show c * (2592 * q) = 2592 * c * q by ac_rfl, show 4320 * (v * q) = 4320 * v * q by ac_rfl]
  omega
theorem hi_force {v q q' w : Int} (hq : 0 < q) (hqq : q ≤ q') (hw : 0 ≤ w) : hiS v q' w ≤ hiS v q w := by
  rw [hi_le (by omega), over]
  have h := over.1 ((hi_le hq).1 (Int.le_refl (hiS v q w)))
  generalize 2592 * hiS v q w - 4320 * v = d at *
  have hd : 0 ≤ d := by
    rcases Int.lt_or_le d 0 with c | c
    · have := Int.mul_neg_of_neg_of_pos c hq
      omega
    · exact c
  have := Int.mul_le_mul_of_nonneg_left hqq hd
  omega
theorem lo_force {v q q' w : Int} (hq : 0 < q) (hqq : q ≤ q') (hw : 0 ≤ w) : loS v q' w ≤ loS v q w := by
  rw [le_lo hq, under]
  have h := under.1 ((le_lo (by omega)).1 (Int.le_refl (loS v q' w)))
  generalize 2592 * loS v q' w - 4320 * v = d at *
  rcases Int.lt_or_le d 0 with c | c
  · have := Int.mul_neg_of_neg_of_pos c hq
    omega
  · have := Int.mul_le_mul_of_nonneg_left hqq c
    omega
theorem lo_le_hi {v q w : Int} (hq : 0 < q) : loS v q w ≤ hiS v q w := by
  have h1 := (le_lo (v := v) (w := w) hq).1 (Int.le_refl _)
  have h2 := (hi_le (v := v) (w := w) hq).1 (Int.le_refl _)
  have h3 := Int.le_trans h1 h2
  exact Int.le_of_mul_le_mul_right h3 (by omega)
theorem lo_nonneg {v q w : Int} (hq : 0 < q) (hn : 0 ≤ nS v q w) : 0 ≤ loS v q w := by
  rw [le_lo hq]; omega
theorem hi_way {v q w : Int} (hq : 0 < q) (hw : 0 ≤ w) : 5 * v ≤ 3 * hiS v q w := by
  have h := over.1 ((hi_le hq).1 (Int.le_refl (hiS v q w)))
  rcases Int.lt_or_le (2592 * hiS v q w - 4320 * v) 0 with c | c
  · have := Int.mul_neg_of_neg_of_pos c hq
    omega
  · omega
theorem hi_zero {q : Int} : hiS 0 q 0 = 0 := by simp [hiS, nS]
theorem sq_mono {m v v' : Int} (hm : 0 ≤ m) (h0 : 0 ≤ v) (h : v ≤ v') : m * (v * v) ≤ m * (v' * v') :=
  Int.mul_le_mul_of_nonneg_left (Int.mul_le_mul h h h0 (by omega)) hm

/-! what is allowed -/
def canV (m p : Int) (g : TBounds) : Bool := inB m 0 400000 && (inB p 1 20000 && vB g 1 1000)
theorem canV_iff {m p : Int} {g : TBounds} : canV m p g = true ↔ (0 ≤ m ∧ m ≤ 400000) ∧ (1 ≤ p ∧ p ≤ 20000) ∧ g.Low ≤ g.High ∧ (1 ≤ g.Low ∧ g.Low ≤ 1000) ∧ 1 ≤ g.High ∧ g.High ≤ 1000 := by
  simp only [canV, vB, Bool.and_eq_true, inB_iff, decide_eq_true_eq]
theorem sp_of {m p : Int} {g : TBounds} (h : canV m p g = true) {v : Int} (hv : 0 ≤ v ∧ v ≤ 400) : Sp m p g.Low v ∧ Sp m p g.High v := by
  obtain ⟨a, b, c, d, e⟩ := canV_iff.1 h
  exact ⟨⟨a, b, d, hv⟩, ⟨a, b, e, hv⟩⟩
set_option maxHeartbeats 2000000

theorem tmod_in {a b : Int} (ha : 0 ≤ a) (hb : 0 < b) : 0 ≤ Int.tmod a b ∧ Int.tmod a b < b := ⟨Int.tmod_nonneg b ha, Int.tmod_lt_of_pos a hb⟩
theorem minmax_in {a b l h : Int} (up : Bool) (ha : l ≤ a ∧ a ≤ h) (hb : l ≤ b ∧ b ≤ h) : l ≤ minmax up a b ∧ minmax up a b ≤ h := by
  cases up <;> simp only [minmax, if_true, Bool.false_eq_true, if_false] <;> split <;> omega
theorem minmax_le {a b : Int} : minmax false a b ≤ minmax true a b := by
  simp only [minmax, if_true, Bool.false_eq_true, if_false]; split <;> split <;> omega
set_option maxHeartbeats 2000000

theorem every_Run {l : List TRun} {p : TRun → Option Bool} {q : TRun → Bool} {g : FuncId} {caps : List V} (hp : ∀ x ∈ l, p x = some (q x)) (hl : l.length ≤ 4611686018427387904) : F_numbers_Every_Run (l, p, g, caps) = some (l.all q) := by
  unfold F_numbers_Every_Run
  simp only
  rw [show (0 : Int) = ((0 : Nat) : Int) from rfl, loop_list l (fun k => (k : Int)) q (e := .inl ()) (f := .inr false)]
  · cases l.all q <;> rfl
  · intro k hk
    simp only [L_numbers_Every_Run_1, Int.ofNat_lt, hk, decide_true, cond_true, idx?_nat hk, Option.bind_some, hp _ (List.getElem_mem hk), wr_nat (show k < 9223372036854775807 by omega)]
    cases q l[k] <;> rfl
  · simp [L_numbers_Every_Run_1]
theorem if_bif {α : Type} (b : Bool) (x y : α) : (if b then x else y) = bif b then x else y := by cases b <;> rfl
def runV (x : TRun) : Bool := (inB x.From 0 100000 && inB x.To 0 100000) && (x.From != x.To && (vB x.Speed 1 400 && vB x.Wait 0 5000))
theorem validRun_eq (x : TRun) : F_tow_validRun x = some (runV x) := by
  simp only [F_tow_validRun, within2, valid_eq, Option.bind_some, bif_and, runV]
def runD (l : List TRun) (k : Nat) : TRun := l.getD k ⟨0, 0, ⟨0, 0⟩, ⟨0, 0⟩⟩
theorem runD_get {l : List TRun} {k : Nat} (h : k < l.length) : l[k] = runD l k := by simp [runD, h]
def dn (x : TRun) : Bool := decide (x.From < x.To)
def jP (l : List TRun) (j : Nat) : Bool := (runD l j).From == (runD l (j - 1)).To && (dn (runD l j) == dn (runD l (j - 1)))
def jOk (l : List TRun) : Bool := (List.range (l.length - 1)).all fun k => jP l (k + 1)
theorem joined_eq {l : List TRun} (hl : l.length ≤ 1000) : F_tow_joined l = some (jOk l) := by
  have h : loopC (L_tow_joined_1 l).step 1 = some (if jOk l then .inl () else .inr false) := by
    refine loop_list (List.range (l.length - 1)) (fun k => ((k + 1 : Nat) : Int)) (fun k => jP l (k + 1)) (fun k hk => ?_) ?_
    · have hk' : k < l.length - 1 := by simpa using hk
      have h1 : k + 1 < l.length := by omega
      have h0 : k < l.length := by omega
      have e : wr (((k + 1 : Nat) : Int) - 1) = (k : Int) := by rw [wr_in (by omega) (by omega)]; omega
      simp only [L_tow_joined_1, Int.ofNat_lt, h1, decide_true, cond_true, idx?_nat h1, Option.bind_some, e, idx?_nat h0, F_tow_down, List.getElem_range, jP, Nat.add_sub_cancel, runD_get h1, runD_get h0, dn]
      rw [wr_nat (by omega)]
      by_cases c : (runD l (k + 1)).From = (runD l k).To
      · simp only [c, bne_self_eq_false, cond_false, beq_self_eq_true, Bool.true_and]
        cases (decide ((runD l k).To < (runD l (k + 1)).To) == decide ((runD l k).From < (runD l k).To)) <;> rfl
      · rw [if_bif, show ((runD l (k + 1)).From != (runD l k).To) = true from by simpa using c, show ((runD l (k + 1)).From == (runD l k).To) = false from by simpa using c]; rfl
    · have : ¬ (((List.range (l.length - 1)).length + 1 : Nat) : Int) < (l.length : Int) ∨ l.length = 0 := by simp; omega
      simp only [L_tow_joined_1]
      rw [decide_eq_false (show ¬ (((List.range (l.length - 1)).length + 1 : Nat) : Int) < (l.length : Int) by rw [List.length_range]; omega)]
      rfl
  simp only [F_tow_joined]
  rw [h]
  cases jOk l <;> rfl
def voyV (v : TVoyage) : Bool := vB v.Start 0 1000000 && (inB (v.Runs.length : Int) 1 20 && (inB v.Length 1 3000 && (inB v.Width 1 200 && (v.Runs.all runV && jOk v.Runs))))
theorem Check_eq (v : TVoyage) : F_tow_Check v = some (bif voyV v then 0 else 2) := by
  simp only [F_tow_Check, valid_eq, within1, Option.bind_some, voyV]
  cases vB v.Start 0 1000000 with
  | false => rfl
  | true =>
    cases hn : inB (v.Runs.length : Int) 1 20 with
    | false => rfl
    | true =>
      have hn := inB_iff.1 hn
      cases inB v.Length 1 3000 with
      | false => rfl
      | true =>
        cases inB v.Width 1 200 with
        | false => rfl
        | true =>
          simp only [Bool.not_true, cond_false, Bool.true_and]
          rw [every_Run (q := runV) (fun x _ => validRun_eq x) (by omega), joined_eq (by omega)]
          cases v.Runs.all runV <;> cases jOk v.Runs <;> rfl
def jR (l : List TRun) (k : Nat) : Bool := runV (runD l k) && (decide (k = 0) || ((runD l k).From == (runD l (k - 1)).To && (dn (runD l k) == dn (runD l 0))))
theorem jR_all {l : List TRun} : (List.range l.length).all (jR l) = (l.all runV && jOk l) := by
  rw [Bool.eq_iff_iff]
  simp only [List.all_eq_true, List.mem_range, Bool.and_eq_true, jOk]
  constructor
  · intro h
    have hd : ∀ k, k < l.length → dn (runD l k) = dn (runD l 0) := by
      intro k hk
      have := h k hk
      simp only [jR, Bool.and_eq_true, Bool.or_eq_true, decide_eq_true_eq, beq_iff_eq] at this
      rcases this.2 with e | e
      · rw [e]
      · exact e.2
    refine ⟨fun x hx => ?_, fun k hk => ?_⟩
    · obtain ⟨k, hk, rfl⟩ := List.getElem_of_mem hx
      have := h k hk
      simp only [jR, Bool.and_eq_true] at this
      rw [runD_get hk]; exact this.1
    · have := h (k + 1) (by omega)
      simp only [jR, Bool.and_eq_true, Bool.or_eq_true, decide_eq_true_eq, beq_iff_eq] at this
      rcases this.2 with e | e
      · omega
      · simp only [jP, Bool.and_eq_true, beq_iff_eq]
        exact ⟨e.1, by rw [e.2, Nat.add_sub_cancel, hd k (by omega)]⟩
  · rintro ⟨h1, h2⟩ k hk
    have hd : ∀ k, k < l.length → dn (runD l k) = dn (runD l 0) := by
      intro k
      induction k with
      | zero => intro _; rfl
      | succ k ih =>
        intro hk
        have := h2 k (by omega)
        simp only [jP, Bool.and_eq_true, beq_iff_eq, Nat.add_sub_cancel] at this
        rw [this.2, ih (by omega)]
    simp only [jR, Bool.and_eq_true, Bool.or_eq_true, decide_eq_true_eq, beq_iff_eq]
    refine ⟨by rw [← runD_get hk]; exact h1 _ (List.getElem_mem hk), ?_⟩
    cases k with
    | zero => exact Or.inl rfl
    | succ k =>
      have := h2 k (by omega)
      simp only [jP, Bool.and_eq_true, beq_iff_eq] at this
      exact Or.inr ⟨this.1, hd _ hk⟩
set_option maxHeartbeats 2000000

def dst (a b : Int) : Int := minmax true (b - a) (a - b)
theorem dst_comm (a b : Int) : minmax true (a - b) (b - a) = dst a b := by
  simp only [dst, minmax, if_true]; split <;> split <;> omega
theorem dst_le {a b : Int} (ha : 0 ≤ a ∧ a ≤ 100000) (hb : 0 ≤ b ∧ b ≤ 100000) : 0 ≤ dst a b ∧ dst a b ≤ 100000 := by
  simp only [dst, minmax, if_true]; split <;> omega
def upM (d s : Int) : Int := -((-(60 * d)) / s)
theorem upM_le {d s : Int} (hd : 0 ≤ d ∧ d ≤ 100000) (hs : 1 ≤ s) : 0 ≤ upM d s ∧ upM d s ≤ 6000000 := by
  have h1 := div_bound (a := -(60 * d)) (b := s) (by omega)
  have h2 : 0 ≤ upM d s := by
    unfold upM
    rw [hi_alt (by omega)]
    exact Int.ediv_nonneg (by omega) (by omega)
  unfold upM at *
  omega
def untilB (x : TRun) (place : Int) : TBounds := ⟨x.Wait.Low + upM (dst x.From place) x.Speed.High, x.Wait.High + upM (dst x.From place) x.Speed.Low⟩
structure Rn (x : TRun) : Prop where
  frm : 0 ≤ x.From ∧ x.From ≤ 100000
  to : 0 ≤ x.To ∧ x.To ≤ 100000
  ne : x.From ≠ x.To
  slo : 1 ≤ x.Speed.Low ∧ x.Speed.Low ≤ 400
  shi : 1 ≤ x.Speed.High ∧ x.Speed.High ≤ 400
  sle : x.Speed.Low ≤ x.Speed.High
  wlo : 0 ≤ x.Wait.Low ∧ x.Wait.Low ≤ 5000
  whi : 0 ≤ x.Wait.High ∧ x.Wait.High ≤ 5000
  wle : x.Wait.Low ≤ x.Wait.High
theorem rn_of {x : TRun} (h : runV x = true) : Rn x := by
  simp only [runV, vB, Bool.and_eq_true, inB_iff, decide_eq_true_eq, bne_iff_ne, ne_eq] at h
  obtain ⟨⟨a, b⟩, c, ⟨d, e, f⟩, g, i, j⟩ := h
  exact ⟨a, b, c, e, f, d, i, j, g⟩
theorem until_le {x : TRun} (h : Rn x) {place : Int} (hp : 0 ≤ place ∧ place ≤ 100000) : (0 ≤ (untilB x place).Low ∧ (untilB x place).Low ≤ 6005000) ∧ 0 ≤ (untilB x place).High ∧ (untilB x place).High ≤ 6005000 := by
  have hd := dst_le h.frm hp
  have h1 := upM_le hd h.shi.1
  have h2 := upM_le hd h.slo.1
  have h3 := h.wlo
  have h4 := h.whi
  simp only [untilB]
  omega
theorem until_eq {x : TRun} (h : Rn x) {place : Int} (hp : 0 ≤ place ∧ place ≤ 100000) : F_tow_until (x, place) = some (untilB x place) := by
  have hf := h.frm
  have hd := dst_le hf hp
  have h1 := upM_le hd h.shi.1
  have h2 := upM_le hd h.slo.1
  have h3 := h.wlo
  have h4 := h.whi
  have e : minmax true (place - x.From) (x.From - place) = dst x.From place := rfl
  simp only [F_tow_until]
  rw [wr_in (n := place - x.From) (by omega) (by omega), wr_in (n := x.From - place) (by omega) (by omega), e, wr_in (n := 60 * dst x.From place) (by omega) (by omega),
    Up_eq (b := x.Speed.High) (by have := h.shi; omega) (by omega), Up_eq (b := x.Speed.Low) (by have := h.slo; omega) (by omega)]
  simp only [Option.bind_some]
  unfold upM at h1 h2
  rw [wr_in (n := x.Wait.Low + _) (by omega) (by omega), wr_in (n := x.Wait.High + _) (by omega) (by omega)]
  rfl
theorem Sum2 {p q : TBounds} (h1 : 0 ≤ p.Low ∧ p.Low ≤ 1000000000) (h2 : 0 ≤ p.High ∧ p.High ≤ 1000000000) (h3 : 0 ≤ q.Low ∧ q.Low ≤ 1000000000) (h4 : 0 ≤ q.High ∧ q.High ≤ 1000000000) : F_numbers_Sum [p, q] = some ⟨p.Low + q.Low, p.High + q.High⟩ := by
  have e1 : (L_numbers_Sum_1 [p, q]).step (0, 0, 0) = some (.inl (1, p.Low, p.High)) := by
    have : idx? [p, q] 0 = some p := idx?_nat (l := [p, q]) (k := 0) (by simp)
    simp only [L_numbers_Sum_1, this, Option.bind_some]
    rw [wr_in (n := 0 + p.Low) (by omega) (by omega), wr_in (n := 0 + p.High) (by omega) (by omega)]
    simp only [Int.zero_add]
    rfl
  have e2 : (L_numbers_Sum_1 [p, q]).step (1, p.Low, p.High) = some (.inl (2, p.Low + q.Low, p.High + q.High)) := by
    have : idx? [p, q] 1 = some q := idx?_nat (l := [p, q]) (k := 1) (by simp)
    simp only [L_numbers_Sum_1, this, Option.bind_some]
    rw [wr_in (n := p.Low + q.Low) (by omega) (by omega), wr_in (n := p.High + q.High) (by omega) (by omega)]
    rfl
  have e3 : (L_numbers_Sum_1 [p, q]).step (2, p.Low + q.Low, p.High + q.High) = some (.inr (p.Low + q.Low, p.High + q.High)) := rfl
  simp only [F_numbers_Sum]
  rw [loopC_eq, e1]
  simp only
  rw [loopC_eq, e2]
  simp only
  rw [loopC_eq, e3]
  rfl
theorem covers1 (a b n : Int) : F_tow_covers (a, b, [n]) = some (inB n (minmax false a b) (minmax true a b)) := by
  simp only [F_tow_covers, within1, Option.bind_some]
theorem btw_end (a b : Int) : inB b (minmax false a b) (minmax true a b) = true ∧ inB a (minmax false a b) (minmax true a b) = true := by
  simp only [inB_iff, minmax, if_true, Bool.false_eq_true, if_false]
  refine ⟨?_, ?_⟩ <;> split <;> split <;> omega
def aGo (place : Int) : List TRun → Int → Int → Int × Int
  | [], lo, hi => (lo, hi)
  | x :: m, lo, hi => if place = x.From then (lo, hi) else if inB place (minmax false x.From x.To) (minmax true x.From x.To) then (lo + (untilB x place).Low, hi + (untilB x place).High) else aGo place m (lo + (untilB x x.To).Low) (hi + (untilB x x.To).High)
structure Vy (v : TVoyage) : Prop where
  start : (0 ≤ v.Start.Low ∧ v.Start.Low ≤ 1000000) ∧ (0 ≤ v.Start.High ∧ v.Start.High ≤ 1000000)
  sle : v.Start.Low ≤ v.Start.High
  runs : 1 ≤ v.Runs.length ∧ v.Runs.length ≤ 20
  len : 1 ≤ v.Length ∧ v.Length ≤ 3000
  each : ∀ x ∈ v.Runs, Rn x
  join : ∀ k, k + 1 < v.Runs.length → (runD v.Runs (k + 1)).From = (runD v.Runs k).To
  dirs : ∀ k, k + 1 < v.Runs.length → dn (runD v.Runs (k + 1)) = dn (runD v.Runs k)
theorem vy_of {v : TVoyage} (h : voyV v = true) : Vy v := by
  simp only [voyV, vB, Bool.and_eq_true, inB_iff, decide_eq_true_eq, List.all_eq_true, jOk, List.mem_range, jP, beq_iff_eq] at h
  obtain ⟨⟨a, b, c⟩, d, e, f, g, i⟩ := h
  exact ⟨⟨b, c⟩, a, by omega, e, fun x hx => rn_of (g x hx), fun k hk => (i k (by omega)).1, fun k hk => (i k (by omega)).2⟩
theorem arrive_loop {v : TVoyage} (hv : Vy v) {place : Int} (hp : 0 ≤ place ∧ place ≤ 100000) : ∀ (m : List TRun) (k : Nat) (bow lo hi : Int), v.Runs.drop k = m → (∀ x m', m = x :: m' → bow = x.From) → 0 ≤ lo → lo ≤ 1000000 + 6005000 * k → 0 ≤ hi → hi ≤ 1000000 + 6005000 * k →
    loopC (L_tow_arrive_1 place v).step (bow, (k : Int), lo, hi) = some (aGo place m lo hi)
  | [], k, bow, lo, hi, h, _, _, _, _, _ => by
    have := drop_nil h
    rw [loopC_eq]
    simp [L_tow_arrive_1, show ¬ k < v.Runs.length by omega, aGo]
  | x :: m, k, bow, lo, hi, h, hb, l0, l1, h0, h1 => by
    obtain ⟨hk1, hg, hd⟩ := drop_cons h
    have hn := hv.runs
    have hx : Rn x := by rw [← hg]; exact hv.each _ (List.getElem_mem hk1)
    have hbow := hb x m rfl
    subst hbow
    rw [loopC_eq]
    generalize hLL : loopC (L_tow_arrive_1 place v).step = LL
    simp only [L_tow_arrive_1, Int.ofNat_lt, hk1, decide_true, cond_true, idx?_nat hk1, hg, Option.bind_some, covers1]
    rw [aGo]
    by_cases c : place = x.From
    · subst c
      simp
    · rw [if_neg c, show (x.From == place) = false from by rw [beq_eq_false_iff_ne]; exact fun e => c e.symm]
      have hu := until_le hx hp
      have ht := until_le hx hx.to
      cases c2 : inB place (minmax false x.From x.To) (minmax true x.From x.To) with
      | true =>
        simp only [cond_false, cond_true, until_eq hx hp, Option.bind_some, if_true]
        rw [Sum2 (by simp only; omega) (by simp only; omega) (by omega) (by omega)]
        simp only [Option.bind_some]
        subst hLL
        rw [wr_nat (by omega), loopC_eq]
        by_cases c3 : k + 1 < v.Runs.length
        · simp only [L_tow_arrive_1, Int.ofNat_lt, c3, decide_true, cond_true, idx?_nat c3, Option.bind_some, beq_self_eq_true]
        · simp only [L_tow_arrive_1, Int.ofNat_lt, c3, decide_false, cond_false]
      | false =>
        simp only [cond_false, until_eq hx hx.to, Option.bind_some, Bool.false_eq_true, if_false]
        rw [Sum2 (by simp only; omega) (by simp only; omega) (by omega) (by omega)]
        simp only [Option.bind_some]
        subst hLL
        rw [wr_nat (by omega)]
        refine arrive_loop hv hp m (k + 1) x.To _ _ hd ?_ (by omega) (by omega) (by omega) (by omega)
        intro y m' hy
        subst hy
        obtain ⟨hk2, hg2, _⟩ := drop_cons hd
        have := hv.join k hk2
        rw [← runD_get hk2, ← runD_get hk1, hg, hg2] at this
        exact this.symm
def arrB (v : TVoyage) (place : Int) : TBounds := ⟨(aGo place v.Runs v.Start.Low v.Start.High).1, (aGo place v.Runs v.Start.Low v.Start.High).2⟩
theorem arrive_eq {v : TVoyage} (hv : Vy v) {place : Int} (hp : 0 ≤ place ∧ place ≤ 100000) : F_tow_arrive (v, place) = some (arrB v place) := by
  have hn := hv.runs
  have hs := hv.start
  have h0 : 0 < v.Runs.length := by omega
  have hz : idx? v.Runs 0 = some v.Runs[0] := idx?_nat (k := 0) h0
  · simp only [F_tow_arrive, hz, Option.bind_some]
    have := arrive_loop hv hp v.Runs 0 v.Runs[0].From v.Start.Low v.Start.High rfl (fun x m h => by simp only [h, List.getElem_cons_zero]) (by omega) (by omega) (by omega) (by omega)
    have this : loopC (L_tow_arrive_1 place v).step (v.Runs[0].From, 0, v.Start.Low, v.Start.High) = _ := this
    rw [this]
    rfl
def endsOf (v : TVoyage) : Int × Int := ((runD v.Runs 0).From, (runD v.Runs (v.Runs.length - 1)).To)
theorem ends_eq {v : TVoyage} (hv : Vy v) : F_tow_ends v = some (endsOf v) := by
  have hn := hv.runs
  have h0 : 0 < v.Runs.length := by omega
  have h1 : v.Runs.length - 1 < v.Runs.length := by omega
  have hz : idx? v.Runs 0 = some v.Runs[0] := idx?_nat (k := 0) h0
  have e : wr ((v.Runs.length : Int) - 1) = ((v.Runs.length - 1 : Nat) : Int) := by rw [wr_in (by omega) (by omega)]; omega
  simp only [F_tow_ends, hz, e, idx?_nat h1, Option.bind_some, endsOf, runD_get h0, runD_get h1]
def onW (v : TVoyage) (n : Int) : Bool := inB n (minmax false (endsOf v).1 (endsOf v).2) (minmax true (endsOf v).1 (endsOf v).2)
theorem onWay_eq {v : TVoyage} (hv : Vy v) (n : Int) : F_tow_onWay (v, [n]) = some (onW v n) := by
  simp only [F_tow_onWay, ends_eq hv, covers1, Option.bind_some, onW]
theorem ends_in {v : TVoyage} (hv : Vy v) : (0 ≤ (endsOf v).1 ∧ (endsOf v).1 ≤ 100000) ∧ 0 ≤ (endsOf v).2 ∧ (endsOf v).2 ≤ 100000 := by
  have hn := hv.runs
  have h0 : 0 < v.Runs.length := by omega
  have h1 : v.Runs.length - 1 < v.Runs.length := by omega
  refine ⟨?_, ?_⟩
  · show 0 ≤ (runD v.Runs 0).From ∧ (runD v.Runs 0).From ≤ 100000
    rw [← runD_get h0]; exact (hv.each _ (List.getElem_mem h0)).frm
  · show 0 ≤ (runD v.Runs (v.Runs.length - 1)).To ∧ (runD v.Runs (v.Runs.length - 1)).To ≤ 100000
    rw [← runD_get h1]; exact (hv.each _ (List.getElem_mem h1)).to
theorem onW_in {v : TVoyage} (hv : Vy v) {n : Int} (h : onW v n = true) : 0 ≤ n ∧ n ≤ 100000 := by
  obtain ⟨a, b⟩ := ends_in hv
  have c := minmax_in false a b
  have d := minmax_in true a b
  have := inB_iff.1 h
  omega
theorem Arrive_eq (v : TVoyage) (n : Int) : F_tow_Arrive (v, n) = some (bif voyV v then (bif onW v n then (arrB v n, 0) else (⟨0, 0⟩, 7)) else (⟨0, 0⟩, 2)) := by
  simp only [F_tow_Arrive, Check_eq, Option.bind_some]
  cases h : voyV v with
  | false => rfl
  | true =>
    have hv := vy_of h
    simp only [cond_true, bne_self_eq_false, cond_false, onWay_eq hv, Option.bind_some]
    cases ho : onW v n with
    | false => rfl
    | true => simp only [Bool.not_true, cond_false, arrive_eq hv (onW_in hv ho), Option.bind_some, cond_true]
set_option maxHeartbeats 2000000

def tl (v : TVoyage) : Int := -((-v.Length) / 100)
theorem tl_in {v : TVoyage} (hv : Vy v) : 1 ≤ tl v ∧ tl v ≤ 30 := by
  have := hv.len
  unfold tl
  omega
/-- A voyage goes down as its first run does. -/
theorem ends_dir {v : TVoyage} (hv : Vy v) : dn (runD v.Runs 0) = decide ((endsOf v).1 < (endsOf v).2) ∧ (endsOf v).1 ≠ (endsOf v).2 := by
  have hn := hv.runs
  have hr : ∀ k, k < v.Runs.length → Rn (runD v.Runs k) := fun k hk => by rw [← runD_get hk]; exact hv.each _ (List.getElem_mem hk)
  have key : ∀ k, k < v.Runs.length → dn (runD v.Runs k) = dn (runD v.Runs 0) ∧ (bif dn (runD v.Runs 0) then decide ((runD v.Runs 0).From < (runD v.Runs k).To) else decide ((runD v.Runs k).To < (runD v.Runs 0).From)) = true := by
    intro k
    induction k with
    | zero =>
      intro hk
      have := (hr 0 hk).ne
      refine ⟨rfl, ?_⟩
      cases h : dn (runD v.Runs 0) with
      | true => exact h
      | false =>
        have := of_decide_eq_false h
        exact decide_eq_true (by omega)
    | succ k ih =>
      intro hk
      obtain ⟨h1, h2⟩ := ih (by omega)
      have h3 := hv.dirs k hk
      have h4 := hv.join k hk
      have h5 := (hr (k + 1) hk).ne
      refine ⟨by rw [h3, h1], ?_⟩
      have h6 : dn (runD v.Runs (k + 1)) = dn (runD v.Runs 0) := by rw [h3, h1]
      cases h : dn (runD v.Runs 0) with
      | true =>
        rw [h] at h2 h6
        have a := of_decide_eq_true h2
        have b := of_decide_eq_true h6
        exact decide_eq_true (by omega)
      | false =>
        rw [h] at h2 h6
        have a := of_decide_eq_true h2
        have b := of_decide_eq_false h6
        exact decide_eq_true (by omega)
  have hk := (key (v.Runs.length - 1) (by omega)).2
  simp only [endsOf]
  cases h : dn (runD v.Runs 0) with
  | true =>
    rw [h] at hk
    have hk := of_decide_eq_true hk
    exact ⟨(decide_eq_true hk).symm, by omega⟩
  | false =>
    rw [h] at hk
    have hk := of_decide_eq_true hk
    exact ⟨(decide_eq_false (by omega)).symm, by omega⟩
theorem onWay2 {v : TVoyage} (hv : Vy v) (a b : Int) : F_tow_onWay (v, [a, b]) = some (onW v a && onW v b) := by
  simp only [F_tow_onWay, ends_eq hv, F_tow_covers, within2, Option.bind_some, onW]
theorem mm_lt {a b : Int} (h : a < b) : minmax false a b = a ∧ minmax true a b = b ∧ minmax false b a = a ∧ minmax true b a = b := by
  simp only [minmax, if_true, Bool.false_eq_true, if_false]
  refine ⟨?_, ?_, ?_, ?_⟩ <;> split <;> omega
set_option maxHeartbeats 2000000

def pickV (b : TBounds) (y : Int) : Int := b.Low + (b.High - b.Low) * y / 255
theorem pick_in {b : TBounds} (h : b.Low ≤ b.High) {y : Int} (hy : 0 ≤ y ∧ y ≤ 255) : b.Low ≤ pickV b y ∧ pickV b y ≤ b.High := by
  have h1 : 0 ≤ (b.High - b.Low) * y := Int.mul_nonneg (by omega) hy.1
  have h2 : (b.High - b.Low) * y ≤ (b.High - b.Low) * 255 := Int.mul_le_mul_of_nonneg_left hy.2 (by omega)
  unfold pickV
  generalize (b.High - b.Low) * y = w at *
  omega
def partV (l : List Int) (i : Nat) : Int := l.getD (i % l.length) 0
theorem part_in {l : List Int} (h : ∀ y ∈ l, 0 ≤ y ∧ y ≤ 255) (i : Nat) : 0 ≤ partV l i ∧ partV l i ≤ 255 := by
  unfold partV
  rw [List.getD_eq_getElem?_getD]
  cases hg : l[i % l.length]? with
  | none => simp
  | some y =>
    obtain ⟨hk, e⟩ := List.getElem?_eq_some_iff.1 hg
    simp only [Option.getD_some]
    exact h y (e ▸ List.getElem_mem hk)
def tGo (x : Tthalweglaw03_Truth) (place : Int) : List TRun → Nat → Int → Int
  | [], _, _ => -1
  | r :: m, k, n => if place = r.From then n else if inB place (minmax false r.From r.To) (minmax true r.From r.To) then n + pickV r.Wait (partV x.Wait k) + upM (dst r.From place) (pickV r.Speed (partV x.Speeds k)) else tGo x place m (k + 1) (n + pickV r.Wait (partV x.Wait k) + upM (dst r.From r.To) (pickV r.Speed (partV x.Speeds k)))
structure Tr (x : Tthalweglaw03_Truth) : Prop where
  start : 0 ≤ x.Start ∧ x.Start ≤ 255
  speeds : ∀ y ∈ x.Speeds, 0 ≤ y ∧ y ≤ 255
  wait : ∀ y ∈ x.Wait, 0 ≤ y ∧ y ≤ 255
theorem btw_alt {f t p : Int} (hne : f ≠ t) (hp : p ≠ f) : ((decide (p - f > 0) == decide (t > f)) && decide (dst f p ≤ dst f t)) = inB p (minmax false f t) (minmax true f t) := by
  rw [Bool.eq_iff_iff]
  simp only [Bool.and_eq_true, beq_iff_eq, decide_eq_decide, decide_eq_true_eq, inB_iff, dst, minmax, if_true, Bool.false_eq_true, if_false]
  split <;> split <;> split <;> split <;> omega
theorem rnIn {r : TRun} (hr : Rn r) {x : Tthalweglaw03_Truth} (hx : Tr x) (k : Nat) : (r.Speed.Low ≤ pickV r.Speed (partV x.Speeds k) ∧ pickV r.Speed (partV x.Speeds k) ≤ r.Speed.High) ∧ r.Wait.Low ≤ pickV r.Wait (partV x.Wait k) ∧ pickV r.Wait (partV x.Wait k) ≤ r.Wait.High :=
  ⟨pick_in hr.sle (part_in hx.speeds k), pick_in hr.wle (part_in hx.wait k)⟩
def truV (v : TVoyage) (x : Tthalweglaw03_Truth) (place : Int) : Int := tGo x place v.Runs 0 (pickV v.Start x.Start)
/-! where a place is found -/
def found (place : Int) : List TRun → Prop
  | [] => False
  | r :: m => place = r.From ∨ inB place (minmax false r.From r.To) (minmax true r.From r.To) = true ∨ found place m
theorem up_le {d s c : Int} (hs : 0 < s) : upM d s ≤ c ↔ 60 * d ≤ c * s := by
  unfold upM
  rw [show -(-(60 * d) / s) ≤ c ↔ -c ≤ -(60 * d) / s by omega, Int.le_ediv_iff_mul_le hs, Int.neg_mul]
  omega
theorem up_mono {d d' s s' : Int} (hd0 : 0 ≤ d) (hd : d ≤ d') (hs : 0 < s') (hss : s' ≤ s) : upM d s ≤ upM d' s' := by
  have h := (up_le hs).1 (Int.le_refl (upM d' s'))
  rw [up_le (by omega)]
  have h0 : 0 ≤ upM d' s' := by
    unfold upM
    rw [hi_alt hs]
    exact Int.ediv_nonneg (by omega) (by omega)
  have := Int.mul_le_mul_of_nonneg_left hss h0
  omega
theorem t_bounds {x : Tthalweglaw03_Truth} (hx : Tr x) {place : Int} (hp : 0 ≤ place ∧ place ≤ 100000) : ∀ (m : List TRun) (k : Nat) (lo n hi : Int), (∀ r ∈ m, Rn r) → found place m → lo ≤ n → n ≤ hi → (aGo place m lo hi).1 ≤ tGo x place m k n ∧ tGo x place m k n ≤ (aGo place m lo hi).2
  | [], _, _, _, _, _, hf, _, _ => hf.elim
  | r :: m, k, lo, n, hi, hm, hf, h1, h2 => by
    have hr := hm r (by simp)
    have ⟨hs, hw⟩ := rnIn hr hx k
    have e1 := hr.slo
    rw [aGo, tGo]
    by_cases c : place = r.From
    · rw [if_pos c, if_pos c]; exact ⟨h1, h2⟩
    · rw [if_neg c, if_neg c]
      have d1 := dst_le hr.frm hp
      have d2 := dst_le hr.frm hr.to
      by_cases c2 : inB place (minmax false r.From r.To) (minmax true r.From r.To) = true
      · rw [if_pos c2, if_pos c2]
        have a := up_mono (d := dst r.From place) (d' := dst r.From place) (s := r.Speed.High) (s' := pickV r.Speed (partV x.Speeds k)) d1.1 (Int.le_refl _) (by omega) hs.2
        have b := up_mono (d := dst r.From place) (d' := dst r.From place) (s := pickV r.Speed (partV x.Speeds k)) (s' := r.Speed.Low) d1.1 (Int.le_refl _) (by omega) hs.1
        simp only [untilB]
        omega
      · rw [if_neg c2, if_neg c2]
        have a := up_mono (d := dst r.From r.To) (d' := dst r.From r.To) (s := r.Speed.High) (s' := pickV r.Speed (partV x.Speeds k)) d2.1 (Int.le_refl _) (by omega) hs.2
        have b := up_mono (d := dst r.From r.To) (d' := dst r.From r.To) (s := pickV r.Speed (partV x.Speeds k)) (s' := r.Speed.Low) d2.1 (Int.le_refl _) (by omega) hs.1
        refine t_bounds hx hp m (k + 1) _ _ _ (fun y hy => hm y (by simp [hy])) ?_ ?_ ?_
        · rcases hf with hf | hf | hf
          · exact absurd hf c
          · exact absurd hf c2
          · exact hf
        · simp only [untilB]; omega
        · simp only [untilB]; omega
theorem t_ge {x : Tthalweglaw03_Truth} (hx : Tr x) {place : Int} (hp : 0 ≤ place ∧ place ≤ 100000) : ∀ (m : List TRun) (k : Nat) (n : Int), (∀ r ∈ m, Rn r) → found place m → n ≤ tGo x place m k n
  | [], _, _, _, hf => hf.elim
  | r :: m, k, n, hm, hf => by
    have hr := hm r (by simp)
    have ⟨hs, hw⟩ := rnIn hr hx k
    have e1 := hr.slo
    have e3 := hr.wlo
    have d1 := dst_le hr.frm hp
    have d2 := dst_le hr.frm hr.to
    have u1 := upM_le d1 (s := pickV r.Speed (partV x.Speeds k)) (by omega)
    have u2 := upM_le d2 (s := pickV r.Speed (partV x.Speeds k)) (by omega)
    rw [tGo]
    by_cases c : place = r.From
    · rw [if_pos c]; exact Int.le_refl _
    · rw [if_neg c]
      by_cases c2 : inB place (minmax false r.From r.To) (minmax true r.From r.To) = true
      · rw [if_pos c2]; omega
      · rw [if_neg c2]
        have := t_ge hx hp m (k + 1) (n + pickV r.Wait (partV x.Wait k) + upM (dst r.From r.To) (pickV r.Speed (partV x.Speeds k))) (fun y hy => hm y (by simp [hy])) (by
          rcases hf with hf | hf | hf
          · exact absurd hf c
          · exact absurd hf c2
          · exact hf)
        omega
/-- One after the other, all in one direction. -/
def chain (dir : Bool) : List TRun → Prop
  | [] => True
  | r :: m => dn r = dir ∧ (∀ y m', m = y :: m' → y.From = r.To) ∧ chain dir m
def lastTo : List TRun → Int
  | [] => 0
  | r :: m => if m = [] then r.To else lastTo m
def bef (dir : Bool) (a b : Int) : Prop := if dir then a ≤ b else b ≤ a
theorem found_of (dir : Bool) {place : Int} : ∀ (r : TRun) (m : List TRun), (∀ y ∈ r :: m, Rn y) → chain dir (r :: m) → bef dir r.From place → bef dir place (lastTo (r :: m)) → found place (r :: m)
  | r, [], hm, hc, h1, h2 => by
    have hr := hm r (by simp)
    refine Or.inr (Or.inl ?_)
    have hd := hc.1
    simp only [lastTo, if_true] at h2
    rw [inB_iff]
    cases dir with
    | true =>
      have := of_decide_eq_true hd
      obtain ⟨m1, m2, _, _⟩ := mm_lt this
      simp only [bef, if_true] at h1 h2
      omega
    | false =>
      have := of_decide_eq_false hd
      have hne := hr.ne
      obtain ⟨_, _, m1, m2⟩ := mm_lt (show r.To < r.From by omega)
      simp only [bef, Bool.false_eq_true, if_false] at h1 h2
      omega
  | r, y :: m, hm, hc, h1, h2 => by
    have hr := hm r (by simp)
    have hd := hc.1
    have hj := hc.2.1 y m rfl
    by_cases c : inB place (minmax false r.From r.To) (minmax true r.From r.To) = true
    · exact Or.inr (Or.inl c)
    · refine Or.inr (Or.inr (found_of dir y m (fun z hz => hm z (by simp only [List.mem_cons] at hz ⊢; exact Or.inr hz)) hc.2.2 ?_ ?_))
      · rw [inB_iff] at c
        rw [hj]
        cases dir with
        | true =>
          have := of_decide_eq_true hd
          obtain ⟨m1, m2, _, _⟩ := mm_lt this
          simp only [bef, if_true] at h1 ⊢
          omega
        | false =>
          have := of_decide_eq_false hd
          have hne := hr.ne
          obtain ⟨_, _, m1, m2⟩ := mm_lt (show r.To < r.From by omega)
          simp only [bef, Bool.false_eq_true, if_false] at h1 ⊢
          omega
      · have e : lastTo (r :: y :: m) = lastTo (y :: m) := by rw [lastTo, if_neg (by simp)]
        rw [e] at h2
        exact h2
theorem t_mono (dir : Bool) {x : Tthalweglaw03_Truth} (hx : Tr x) {p q : Int} (hp : 0 ≤ p ∧ p ≤ 100000) (hq : 0 ≤ q ∧ q ≤ 100000) (hpq : bef dir p q) : ∀ (r : TRun) (m : List TRun) (k : Nat) (n : Int), (∀ y ∈ r :: m, Rn y) → chain dir (r :: m) → bef dir r.From p → found p (r :: m) → found q (r :: m) → tGo x p (r :: m) k n ≤ tGo x q (r :: m) k n := by
  intro r m
  induction m generalizing r with
  | nil =>
    intro k n hm hc h1 hfp hfq
    exact t_mono_step dir hx hp hq hpq r [] k n hm hc h1 hfp hfq (fun y m' h => by cases h)
  | cons y m ih =>
    intro k n hm hc h1 hfp hfq
    refine t_mono_step dir hx hp hq hpq r (y :: m) k n hm hc h1 hfp hfq (fun z m' h n' h2 h3 h4 => ?_)
    cases h
    exact ih y (k + 1) n' (fun w hw => hm w (by simp only [List.mem_cons] at hw ⊢; exact Or.inr hw)) hc.2.2 h2 h3 h4
where
  t_mono_step (dir : Bool) {x : Tthalweglaw03_Truth} (hx : Tr x) {p q : Int} (hp : 0 ≤ p ∧ p ≤ 100000) (hq : 0 ≤ q ∧ q ≤ 100000) (hpq : bef dir p q) (r : TRun) (m : List TRun) (k : Nat) (n : Int) (hm : ∀ y ∈ r :: m, Rn y) (hc : chain dir (r :: m)) (h1 : bef dir r.From p) (hfp : found p (r :: m)) (hfq : found q (r :: m))
      (ih : ∀ (y : TRun) (m' : List TRun), m = y :: m' → ∀ n, bef dir y.From p → found p m → found q m → tGo x p m (k + 1) n ≤ tGo x q m (k + 1) n) : tGo x p (r :: m) k n ≤ tGo x q (r :: m) k n := by
    have hr := hm r (by simp)
    have hm' : ∀ y ∈ m, Rn y := fun y hy => hm y (by simp [hy])
    have ⟨hs, hw⟩ := rnIn hr hx k
    have e1 := hr.slo
    have e3 := hr.wlo
    have hd := hc.1
    have hne := hr.ne
    by_cases c : p = r.From
    · rw [show tGo x p (r :: m) k n = n by rw [tGo, if_pos c]]
      exact t_ge hx hq (r :: m) k n hm hfq
    · have d1 := dst_le hr.frm hp
      have d2 := dst_le hr.frm hr.to
      have dirs : (r.From < r.To ∧ r.From < p ∧ p ≤ q ∧ dir = true) ∨ (r.To < r.From ∧ p < r.From ∧ q ≤ p ∧ dir = false) := by
        cases dir with
        | true =>
          have := of_decide_eq_true hd
          simp only [bef, if_true] at h1 hpq
          exact Or.inl ⟨this, by omega, hpq, rfl⟩
        | false =>
          have := of_decide_eq_false hd
          simp only [bef, Bool.false_eq_true, if_false] at h1 hpq
          exact Or.inr ⟨by omega, by omega, hpq, rfl⟩
      have cq : q ≠ r.From := by omega
      have fq : ¬ inB q (minmax false r.From r.To) (minmax true r.From r.To) = true → found q m := fun c2 => by
        rcases hfq with h | h | h
        · exact absurd h cq
        · exact absurd h c2
        · exact h
      rw [tGo, tGo, if_neg c, if_neg cq]
      by_cases cp2 : inB p (minmax false r.From r.To) (minmax true r.From r.To) = true
      · rw [if_pos cp2]
        by_cases cq2 : inB q (minmax false r.From r.To) (minmax true r.From r.To) = true
        · rw [if_pos cq2]
          have hdd : dst r.From p ≤ dst r.From q := by
            simp only [dst, minmax, if_true]
            split <;> split <;> omega
          have := up_mono (s := pickV r.Speed (partV x.Speeds k)) (s' := pickV r.Speed (partV x.Speeds k)) d1.1 hdd (by omega) (Int.le_refl _)
          omega
        · rw [if_neg cq2]
          have hdd : dst r.From p ≤ dst r.From r.To := by
            have cp2 := inB_iff.1 cp2
            rcases dirs with ⟨a, b, _, _⟩ | ⟨a, b, _, _⟩
            · obtain ⟨m1, m2, _, _⟩ := mm_lt a
              simp only [dst, minmax, if_true]
              split <;> split <;> omega
            · obtain ⟨_, _, m1, m2⟩ := mm_lt a
              simp only [dst, minmax, if_true]
              split <;> split <;> omega
          have := up_mono (s := pickV r.Speed (partV x.Speeds k)) (s' := pickV r.Speed (partV x.Speeds k)) d1.1 hdd (by omega) (Int.le_refl _)
          have := t_ge hx hq m (k + 1) (n + pickV r.Wait (partV x.Wait k) + upM (dst r.From r.To) (pickV r.Speed (partV x.Speeds k))) hm' (fq cq2)
          omega
      · have cq2 : ¬ inB q (minmax false r.From r.To) (minmax true r.From r.To) = true := by
          rw [inB_iff] at cp2 ⊢
          rcases dirs with ⟨a, b, e, _⟩ | ⟨a, b, e, _⟩
          · obtain ⟨m1, m2, _, _⟩ := mm_lt a
            omega
          · obtain ⟨_, _, m1, m2⟩ := mm_lt a
            omega
        rw [if_neg cp2, if_neg cq2]
        have fp : found p m := by
          rcases hfp with h | h | h
          · exact absurd h c
          · exact absurd h cp2
          · exact h
        cases m with
        | nil => exact fp.elim
        | cons y m' =>
          refine ih y m' rfl _ ?_ fp (fq cq2)
          have hj := hc.2.1 y m' rfl
          rw [hj]
          rw [inB_iff] at cp2
          rcases dirs with ⟨a, b, e, rfl⟩ | ⟨a, b, e, rfl⟩
          · obtain ⟨m1, m2, _, _⟩ := mm_lt a
            simp only [bef, if_true]
            omega
          · obtain ⟨_, _, m1, m2⟩ := mm_lt a
            simp only [bef, Bool.false_eq_true, if_false]
            omega
theorem chain_of {v : TVoyage} (hv : Vy v) : ∀ (m : List TRun) (k : Nat), v.Runs.drop k = m → (m ≠ [] → dn (runD v.Runs k) = dn (runD v.Runs 0)) → chain (dn (runD v.Runs 0)) m ∧ (m ≠ [] → lastTo m = (runD v.Runs (v.Runs.length - 1)).To)
  | [], _, _, _ => ⟨trivial, fun h => absurd rfl h⟩
  | r :: m, k, h, hk => by
    obtain ⟨hk1, hg, hd⟩ := drop_cons h
    have hk := hk (by simp)
    have hg' : runD v.Runs k = r := by rw [← runD_get hk1, hg]
    have ih := chain_of hv m (k + 1) hd (fun hne => by
      have : k + 1 < v.Runs.length := by
        cases m with
        | nil => exact absurd rfl hne
        | cons y m' => exact (drop_cons hd).1
      rw [hv.dirs k this, hk])
    refine ⟨⟨by rw [← hg', hk], fun y m' hy => ?_, ih.1⟩, fun _ => ?_⟩
    · subst hy
      obtain ⟨hk2, hg2, _⟩ := drop_cons hd
      have := hv.join k hk2
      rw [← runD_get hk2, hg2, hg'] at this
      exact this
    · cases m with
      | nil =>
        have := drop_nil hd
        rw [lastTo, if_pos rfl, show v.Runs.length - 1 = k by omega, hg']
      | cons y m' =>
        rw [lastTo, if_neg (by simp)]
        exact ih.2 (by simp)
set_option maxHeartbeats 4000000

theorem tail_wr {v : TVoyage} (hv : Vy v) : wr (Int.tdiv (wr (v.Length + 99)) 100) = tl v := by
  have hl := hv.len
  have ht := tl_in hv
  rw [wr_in (n := v.Length + 99) (by omega) (by omega), Int.tdiv_eq_ediv_of_nonneg (by omega)]
  unfold tl
  rw [hi_alt (by decide), wr_in (by omega) (by omega)]
  congr 1
  omega
theorem dn_not {r : TRun} (h : Rn r) : decide (r.To < r.From) = !dn r := by
  have := h.ne
  unfold dn
  rw [Bool.eq_iff_iff]
  simp only [Bool.not_eq_true', decide_eq_true_eq, decide_eq_false_iff_not]
  omega
def within (b : TBounds) (t : Int) : Prop := b.Low ≤ t ∧ t ≤ b.High
end Go.Ev.Tw
/- Deep enough: copies of a river, of a forecast and of a voyage. -/
set_option linter.unusedVariables false
set_option linter.unusedSimpArgs false
namespace Go.Ev
set_option maxHeartbeats 2000000
theorem haulVoyage_eq {v : TVoyage} (h : v.Runs.length ≤ 1000000) : F_thalwegtop_haulVoyage v = some v := by
  simp only [F_thalwegtop_haulVoyage]
  rw [app_nil (by omega) (by decide)]
  rfl
theorem haulSides_eq {l : List (List TBounds)} (hn : l.length ≤ 1000000) (hs : ∀ x ∈ l, x.length ≤ 1000000) : F_thalwegtop_haulSides l = some l := by
  unfold F_thalwegtop_haulSides
  simp only
  rw [show ((0 : Int), ([] : List (List TBounds))) = (fun k : Nat => ((k : Int), l.take k)) 0 from rfl, loop_run (fun k : Nat => ((k : Int), l.take k)) l.length (e := l)]
  · rfl
  · intro k hk
    simp only [L_thalwegtop_haulSides_1, Int.ofNat_lt, hk, decide_true, cond_true, idx?_nat hk, Option.bind_some]
    have := hs _ (List.getElem_mem hk)
    rw [app_nil (by omega) (by decide)]
    simp only [Option.bind_some]
    rw [app_of (by simp [Nat.min_eq_left (Nat.le_of_lt hk)]; omega) (by decide), wr_nat (by omega)]
    simp only [Option.bind_some, List.take_succ_eq_append_getElem hk]
  · simp [L_thalwegtop_haulSides_1]
theorem haulRiver_eq {r : TRiver} (hn : r.Reaches.length ≤ 12) (hm : r.Shoals.length ≤ 20) (hs : ∀ x ∈ r.Reaches, x.Curve.length ≤ 1000000) : F_thalwegtop_haulRiver r = some r := by
  unfold F_thalwegtop_haulRiver
  simp only
  rw [app_nil (m := r.Shoals) (by omega) (by decide)]
  simp only [Option.bind_some]
  rw [show ((0 : Int), ([] : List TReach)) = (fun k : Nat => ((k : Int), r.Reaches.take k)) 0 from rfl, loop_run (fun k : Nat => ((k : Int), r.Reaches.take k)) r.Reaches.length (e := r.Reaches)]
  · rfl
  · intro k hk
    simp only [L_thalwegtop_haulRiver_1, Int.ofNat_lt, hk, decide_true, cond_true, idx?_nat hk, Option.bind_some]
    have := hs _ (List.getElem_mem hk)
    rw [app_nil (by omega) (by decide)]
    simp only [Option.bind_some]
    rw [app_of (by simp [Nat.min_eq_left (Nat.le_of_lt hk)]; omega) (by decide), wr_nat (by omega)]
    simp only [Option.bind_some, List.take_succ_eq_append_getElem hk]
  · simp [L_thalwegtop_haulRiver_1]
end Go.Ev
/- Deep enough: the truth of a voyage. -/
set_option linter.unusedVariables false
set_option linter.unusedSimpArgs false
namespace Go.Ev
open Tw
set_option maxHeartbeats 2000000
theorem mm_max (a b : Int) : minmax true a b = max a b := by simp only [minmax, if_true]; omega
theorem mm_min (a b : Int) : minmax false a b = min a b := by simp only [minmax, Bool.false_eq_true, if_false]; omega
/-! bytes -/
def pt (l : List Int) (i : Int) : Int := if l.length = 0 then 0 else l.getD (Int.tmod i (l.length : Int)).toNat 0
def byteL (l : List Int) : Prop := ∀ x ∈ l, 0 ≤ x ∧ x ≤ 255
theorem part_eq {l : List Int} {i : Int} (hi : 0 ≤ i) : F_thalwegtop_haulPart (l, i) = some (pt l i) := by
  simp only [F_thalwegtop_haulPart, pt]
  by_cases c : l.length = 0
  · simp [c]
  · have hpos : 0 < (l.length : Int) := by omega
    rw [show (((l.length : Int) == 0)) = false by simp; exact fun e => c (by simp [e])]
    simp only [cond_false, nz_of (show (l.length : Int) ≠ 0 by omega), Option.bind_some]
    have h0 := Int.tmod_nonneg (l.length : Int) hi
    have h1 := Int.tmod_lt_of_pos i hpos
    rw [if_neg c]
    unfold idx?
    rw [if_pos h0, List.getD_eq_getElem?_getD, List.getElem?_eq_getElem (by omega)]
    rfl
theorem pt_in {l : List Int} (h : byteL l) (i : Int) : 0 ≤ pt l i ∧ pt l i ≤ 255 := by
  unfold pt
  split
  · omega
  · rw [List.getD_eq_getElem?_getD]
    cases hx : l[(Int.tmod i (l.length : Int)).toNat]? with
    | none => simp
    | some y => exact h y (List.mem_of_getElem? hx)
def pk (b : TBounds) (p : Int) : Int := b.Low + (b.High - b.Low) * p / 255
theorem pk_in {b : TBounds} {p : Int} (h0 : 0 ≤ p) (h1 : p ≤ 255) (hb : b.Low ≤ b.High) : b.Low ≤ pk b p ∧ pk b p ≤ b.High := by
  unfold pk
  have a1 : 0 ≤ (b.High - b.Low) * p := Int.mul_nonneg (by omega) h0
  have a2 : (b.High - b.Low) * p ≤ (b.High - b.Low) * 255 := Int.mul_le_mul_of_nonneg_left h1 (by omega)
  generalize (b.High - b.Low) * p = u at a1 a2 ⊢
  omega
theorem pick_eq {b : TBounds} {p : Int} (h0 : 0 ≤ p) (h1 : p ≤ 255) (hb : b.Low ≤ b.High) (hl : -10000000000000 ≤ b.Low) (hh : b.High ≤ 10000000000000) : F_thalwegtop_haulPick (b, p) = some (pk b p) := by
  have a1 : 0 ≤ (b.High - b.Low) * p := Int.mul_nonneg (by omega) h0
  have a2 : (b.High - b.Low) * p ≤ (b.High - b.Low) * 255 := Int.mul_le_mul_of_nonneg_left h1 (by omega)
  have hin := pk_in h0 h1 hb
  have hin' := hin
  unfold pk at hin'
  simp only [F_thalwegtop_haulPick]
  rw [wr_in (n := b.High - b.Low) (by omega) (by omega), wr_in (n := p) (by omega) (by omega), wr_in (n := (b.High - b.Low) * p) (by omega) (by omega), Int.tdiv_eq_ediv_of_nonneg a1, wr_in (n := (b.High - b.Low) * p / 255) (by omega) (by omega), wr_in (by omega) (by omega)]
  rfl
/-! a run with one speed and one wait -/
def exR (x : TRun) (s w : Int) : TRun := ⟨x.From, x.To, ⟨s, s⟩, ⟨w, w⟩⟩
theorem exR_V {x : TRun} (h : runV x = true) {s w : Int} (s1 : x.Speed.Low ≤ s) (s2 : s ≤ x.Speed.High) (w1 : x.Wait.Low ≤ w) (w2 : w ≤ x.Wait.High) : runV (exR x s w) = true := by
  simp only [runV, Tw.vB, Bool.and_eq_true, inB_iff, decide_eq_true_eq, exR] at h ⊢
  refine ⟨h.1, h.2.1, ⟨by first | omega | exact decide_eq_true (Int.le_refl _), by omega, by omega⟩, by first | omega | exact decide_eq_true (Int.le_refl _), by omega, by omega⟩
/-- The runs of the truth. -/
def exL (l : List Int) : List TRun → Nat → List TRun
  | [], _ => []
  | x :: m, k => exR x (pk x.Speed (pt l (2 * (k : Int) + 1))) (pk x.Wait (pt l (2 * (k : Int) + 2))) :: exL l m (k + 1)
theorem exL_len (l : List Int) : ∀ (m : List TRun) (k : Nat), (exL l m k).length = m.length
  | [], _ => rfl
  | x :: m, k => by simp [exL, exL_len l m (k + 1)]
theorem exL_get (l : List Int) : ∀ (m : List TRun) (k j : Nat) (h : j < m.length), (exL l m k)[j]? = some (exR m[j] (pk m[j].Speed (pt l (2 * ((k + j : Nat) : Int) + 1))) (pk m[j].Wait (pt l (2 * ((k + j : Nat) : Int) + 2))))
  | [], _, _, h => by simp at h
  | x :: m, k, 0, h => by simp [exL]
  | x :: m, k, j + 1, h => by
    have := exL_get l m (k + 1) j (by simpa using h)
    simp only [exL, List.getElem?_cons_succ, List.getElem_cons_succ]
    rw [this, show k + 1 + j = k + (j + 1) by omega]
theorem a_true {l : List Int} (hb : byteL l) {place : Int} (hp : 0 ≤ place ∧ place ≤ 100000) : ∀ (m : List TRun) (k : Nat) (lo n hi : Int), (∀ r ∈ m, Rn r) → lo ≤ n → n ≤ hi → ∃ t, aGo place (exL l m k) n n = (t, t) ∧ (aGo place m lo hi).1 ≤ t ∧ t ≤ (aGo place m lo hi).2
  | [], _, lo, n, hi, _, h1, h2 => ⟨n, rfl, h1, h2⟩
  | r :: m, k, lo, n, hi, hm, h1, h2 => by
    have hr := hm r (by simp)
    have q1 := pt_in hb (2 * (k : Int) + 1)
    have q2 := pt_in hb (2 * (k : Int) + 2)
    have hs := pk_in q1.1 q1.2 hr.sle
    have hw := pk_in q2.1 q2.2 hr.wle
    have e1 := hr.slo
    rw [exL, aGo, aGo]
    have ef : (exR r (pk r.Speed (pt l (2 * (k : Int) + 1))) (pk r.Wait (pt l (2 * (k : Int) + 2)))).From = r.From := rfl
    have et : (exR r (pk r.Speed (pt l (2 * (k : Int) + 1))) (pk r.Wait (pt l (2 * (k : Int) + 2)))).To = r.To := rfl
    rw [ef, et]
    by_cases c : place = r.From
    · rw [if_pos c, if_pos c]; exact ⟨n, rfl, h1, h2⟩
    · rw [if_neg c, if_neg c]
      have d1 := dst_le hr.frm hp
      have d2 := dst_le hr.frm hr.to
      by_cases c2 : inB place (minmax false r.From r.To) (minmax true r.From r.To) = true
      · rw [if_pos c2, if_pos c2]
        have a := up_mono (d := dst r.From place) (d' := dst r.From place) (s := r.Speed.High) (s' := pk r.Speed (pt l (2 * (k : Int) + 1))) d1.1 (Int.le_refl _) (by omega) hs.2
        have b := up_mono (d := dst r.From place) (d' := dst r.From place) (s := pk r.Speed (pt l (2 * (k : Int) + 1))) (s' := r.Speed.Low) d1.1 (Int.le_refl _) (by omega) hs.1
        exact ⟨_, rfl, by simp only [untilB, exR]; omega, by simp only [untilB, exR]; omega⟩
      · rw [if_neg c2, if_neg c2]
        have a := up_mono (d := dst r.From r.To) (d' := dst r.From r.To) (s := r.Speed.High) (s' := pk r.Speed (pt l (2 * (k : Int) + 1))) d2.1 (Int.le_refl _) (by omega) hs.2
        have b := up_mono (d := dst r.From r.To) (d' := dst r.From r.To) (s := pk r.Speed (pt l (2 * (k : Int) + 1))) (s' := r.Speed.Low) d2.1 (Int.le_refl _) (by omega) hs.1
        exact a_true hb hp m (k + 1) _ (n + (pk r.Wait (pt l (2 * (k : Int) + 2)) + upM (dst r.From r.To) (pk r.Speed (pt l (2 * (k : Int) + 1))))) _ (fun y hy => hm y (by simp [hy])) (by simp only [untilB]; omega) (by simp only [untilB]; omega)
theorem a_nonneg {place : Int} (hp : 0 ≤ place ∧ place ≤ 100000) : ∀ (m : List TRun) (k : Nat) (lo hi : Int), (∀ r ∈ m, Rn r) → 0 ≤ lo → lo ≤ 1000000 + 6005000 * k → 0 ≤ hi → hi ≤ 1000000 + 6005000 * k → 0 ≤ (aGo place m lo hi).1 ∧ (aGo place m lo hi).1 ≤ 1000000 + 6005000 * (k + m.length) ∧ 0 ≤ (aGo place m lo hi).2 ∧ (aGo place m lo hi).2 ≤ 1000000 + 6005000 * (k + m.length)
  | [], k, lo, hi, _, h1, h2, h3, h4 => by simp only [aGo, List.length_nil]; omega
  | r :: m, k, lo, hi, hm, h1, h2, h3, h4 => by
    have hr := hm r (by simp)
    have u1 := until_le hr hp
    have u2 := until_le hr hr.to
    rw [aGo]
    simp only [List.length_cons]
    split
    · omega
    · split
      · omega
      · have := a_nonneg hp m (k + 1) (lo + (untilB r r.To).Low) (hi + (untilB r r.To).High) (fun y hy => hm y (by simp [hy])) (by omega) (by omega) (by omega) (by omega)
        omega
theorem arr_in {v : TVoyage} (hv : Vy v) {place : Int} (hp : 0 ≤ place ∧ place ≤ 100000) : 0 ≤ (arrB v place).Low ∧ (arrB v place).Low ≤ 1000000000 ∧ 0 ≤ (arrB v place).High ∧ (arrB v place).High ≤ 1000000000 ∧ (arrB v place).Low ≤ (arrB v place).High := by
  have h1 := hv.start
  have h2 := hv.runs
  have := a_nonneg hp v.Runs 0 v.Start.Low v.Start.High hv.each (by omega) (by omega) (by omega) (by omega)
  obtain ⟨t, _, t1, t2⟩ := a_true (l := []) (fun x hx => by cases hx) hp v.Runs 0 v.Start.Low v.Start.Low v.Start.High hv.each (Int.le_refl _) hv.sle
  simp only [arrB]
  omega
/-- The true voyage. -/
def trueV (v : TVoyage) (l : List Int) : TVoyage := ⟨⟨pk v.Start (pt l 0), pk v.Start (pt l 0)⟩, exL l v.Runs 0, v.Length, v.Width⟩
theorem runD_ex {v : TVoyage} {l : List Int} {j : Nat} (h : j < v.Runs.length) : (runD (exL l v.Runs 0) j).From = (runD v.Runs j).From ∧ (runD (exL l v.Runs 0) j).To = (runD v.Runs j).To := by
  have e := exL_get l v.Runs 0 j h
  have : runD (exL l v.Runs 0) j = exR v.Runs[j] (pk v.Runs[j].Speed (pt l (2 * ((0 + j : Nat) : Int) + 1))) (pk v.Runs[j].Wait (pt l (2 * ((0 + j : Nat) : Int) + 2))) := by
    unfold runD; rw [List.getD_eq_getElem?_getD, e]; rfl
  rw [this, ← runD_get h]
  exact ⟨rfl, rfl⟩
theorem trueV_ok {v : TVoyage} {l : List Int} (hb : byteL l) (h : voyV v = true) : voyV (trueV v l) = true := by
  have hv := vy_of h
  have hst := pt_in hb 0
  have hs := pk_in hst.1 hst.2 hv.sle
  have h' := h
  simp only [voyV, Bool.and_eq_true] at h'
  obtain ⟨g1, g2, g3, g4, g5, g6⟩ := h'
  have hst2 := hv.start
  simp only [voyV, Bool.and_eq_true, trueV, exL_len]
  refine ⟨?_, g2, g3, g4, ?_, ?_⟩
  · simp only [Tw.vB, Bool.and_eq_true, inB_iff, decide_eq_true_eq]; omega
  · rw [List.all_eq_true] at g5 ⊢
    intro y hy
    obtain ⟨j, hj, rfl⟩ := List.mem_iff_getElem.1 hy
    have hj' : j < v.Runs.length := by rwa [exL_len] at hj
    have e := exL_get l v.Runs 0 j hj'
    rw [List.getElem?_eq_getElem hj] at e
    have e := Option.some.inj e
    rw [e]
    have hr := hv.each _ (List.getElem_mem hj')
    have q1 := pt_in hb (2 * ((0 + j : Nat) : Int) + 1)
    have q2 := pt_in hb (2 * ((0 + j : Nat) : Int) + 2)
    have a1 := pk_in q1.1 q1.2 hr.sle
    have a2 := pk_in q2.1 q2.2 hr.wle
    exact exR_V (g5 _ (List.getElem_mem hj')) a1.1 a1.2 a2.1 a2.2
  · unfold jOk at g6 ⊢
    rw [exL_len]
    rw [List.all_eq_true] at g6 ⊢
    intro k hk
    have hk2 : k + 1 < v.Runs.length := by have := List.mem_range.1 hk; omega
    have := g6 k hk
    unfold jP dn at this ⊢
    rw [(runD_ex (l := l) hk2).1, (runD_ex (l := l) hk2).2, show k + 1 - 1 = k by omega, (runD_ex (l := l) (show k < v.Runs.length by omega)).1, (runD_ex (l := l) (show k < v.Runs.length by omega)).2]
    rw [show k + 1 - 1 = k by omega] at this
    exact this
theorem trueV_on {v : TVoyage} {l : List Int} (hv : Vy v) (n : Int) : onW (trueV v l) n = onW v n := by
  have h := hv.runs
  have e : endsOf (trueV v l) = endsOf v := by
    unfold endsOf trueV
    simp only [exL_len]
    rw [(runD_ex (l := l) (show 0 < v.Runs.length by omega)).1, (runD_ex (l := l) (show v.Runs.length - 1 < v.Runs.length by omega)).2]
  unfold onW
  rw [e]
theorem trueV_arr {v : TVoyage} {l : List Int} (hb : byteL l) (h : voyV v = true) {place : Int} (ho : onW v place = true) :
    ∃ t, F_tow_Arrive (trueV v l, place) = some (⟨t, t⟩, 0) ∧ (arrB v place).Low ≤ t ∧ t ≤ (arrB v place).High := by
  have hv := vy_of h
  have hp := onW_in hv ho
  have hst := pt_in hb 0
  have hs := pk_in hst.1 hst.2 hv.sle
  obtain ⟨t, e, t1, t2⟩ := a_true hb hp v.Runs 0 v.Start.Low (pk v.Start (pt l 0)) v.Start.High hv.each hs.1 hs.2
  refine ⟨t, ?_, t1, t2⟩
  have ea : arrB (trueV v l) place = ⟨t, t⟩ := by
    unfold arrB trueV
    simp only [e]
  rw [Tw.Arrive_eq, trueV_ok hb h, trueV_on hv, ho]
  simp only [cond_true, ea]
end Go.Ev
/- Deep enough: the law. -/
set_option linter.unusedVariables false
set_option linter.unusedSimpArgs false
namespace Go.Ev
open Tw
set_option maxHeartbeats 2000000
theorem Flows_eq {r : TRiver} {s : List (List TBounds)} {H : Nat} (h : FcOk r s H) (hz : startErr r s = 0) (hs : ∀ x ∈ s, x.length ≤ 1000000) : F_river_Flows (r, s) = some (flowsTo r s H s.length, 0) := by
  simp only [F_river_Flows, run_eq h hz hs, Option.bind_some]
theorem Flows_err {r : TRiver} {s : List (List TBounds)} (hz : startErr r s ≠ 0) (hs : ∀ x ∈ s, x.length ≤ 1000000) : F_river_Flows (r, s) = some ([], startErr r s) := by
  simp only [F_river_Flows, run_err hz hs, Option.bind_some]
/-- What a law's good river is. -/
structure Gd (r : TRiver) (s : List (List TBounds)) (H : Nat) : Prop where
  fc : FcOk r s H
  zero : startErr r s = 0
  nr : r.Reaches.length ≤ 12
  ns : r.Shoals.length ≤ 20
  hm : H ≤ 100
  cv : ∀ x ∈ r.Reaches, x.Curve.length ≤ 40
theorem good_eq {r : TRiver} {s : List (List TBounds)} : ∃ b, F_thalwegtop_haulGood (r, s) = some b ∧ (b = true → ∃ H, Gd r s H) := by
  simp only [F_thalwegtop_haulGood]
  by_cases c1 : (r.Reaches.length : Int) < 1
  · rw [decide_eq_true c1]; exact ⟨false, rfl, fun h => by cases h⟩
  rw [decide_eq_false c1]; simp only [cond_false]
  by_cases c2 : (r.Reaches.length : Int) > 12
  · rw [decide_eq_true c2]; exact ⟨false, rfl, fun h => by cases h⟩
  rw [decide_eq_false c2]; simp only [cond_false]
  by_cases c3 : (r.Shoals.length : Int) > 20
  · rw [decide_eq_true c3]; exact ⟨false, rfl, fun h => by cases h⟩
  rw [decide_eq_false c3]; simp only [cond_false]
  by_cases c4 : s.length = r.Reaches.length
  case neg =>
    rw [len_bne, decide_eq_false c4]; exact ⟨false, rfl, fun h => by cases h⟩
  rw [len_bne, decide_eq_true c4]; simp only [Bool.not_true, cond_false]
  have hp : 0 < s.length := by omega
  have e0 : idx? s 0 = some s[0] := idx?_nat (k := 0) hp
  simp only [e0, Option.bind_some]
  by_cases c5 : ((s[0]).length : Int) < 1
  · rw [decide_eq_true c5]; exact ⟨false, rfl, fun h => by cases h⟩
  rw [decide_eq_false c5]; simp only [cond_false]
  by_cases c6 : ((s[0]).length : Int) > 100
  · rw [decide_eq_true c6]; exact ⟨false, rfl, fun h => by cases h⟩
  rw [decide_eq_false c6]; simp only [cond_false]
  have hz : (r.Reaches.zip s).length = r.Reaches.length := by simp [c4]
  rw [loop_list0 (r.Reaches.zip s) (fun x => decide (x.1.Curve.length ≤ 40) && decide (x.2.length = s[0].length)) (e := .inl ()) (f := .inr false)]
  · cases ha : (r.Reaches.zip s).all (fun x => decide (x.1.Curve.length ≤ 40) && decide (x.2.length = s[0].length)) with
    | false => exact ⟨false, rfl, fun h => by cases h⟩
    | true =>
      rw [List.all_eq_true] at ha
      have hs : ∀ x ∈ s, x.length = s[0].length := fun x hx => by
        obtain ⟨k, hk, rfl⟩ := List.mem_iff_getElem.1 hx
        have := ha ((r.Reaches.zip s)[k]'(by omega)) (List.getElem_mem _)
        simp only [List.getElem_zip, Bool.and_eq_true, decide_eq_true_eq] at this
        exact this.2
      have hc : ∀ x ∈ r.Reaches, x.Curve.length ≤ 40 := fun x hx => by
        obtain ⟨k, hk, rfl⟩ := List.mem_iff_getElem.1 hx
        have := ha ((r.Reaches.zip s)[k]'(by omega)) (List.getElem_mem _)
        simp only [List.getElem_zip, Bool.and_eq_true, decide_eq_true_eq] at this
        exact this.1
      have hs2 : ∀ x ∈ s, x.length ≤ 1000000 := fun x hx => by have := hs x hx; omega
      simp only [if_true, Option.bind_some, haulRiver_eq (r := r) (by omega) (by omega) (fun x hx => by have := hc x hx; omega), haulSides_eq (l := s) (by omega) hs2]
      by_cases hz : startErr r s = 0
      · obtain ⟨H, h⟩ := fcOk_of hz
        rw [Flows_eq h hz hs2]
        refine ⟨true, rfl, fun _ => ⟨H, h, hz, by omega, by omega, ?_, hc⟩⟩
        have := h.hours _ (List.getElem_mem hp)
        omega
      · rw [Flows_err hz hs2]
        exact ⟨_, rfl, fun h => absurd (by simpa using h) hz⟩
  · intro k hk
    have k1 : k < r.Reaches.length := by omega
    have k2 : k < s.length := by omega
    simp only [L_thalwegtop_haulGood_1, Int.ofNat_lt, k1, decide_true, cond_true, idx?_nat k1, idx?_nat k2, e0, Option.bind_some, List.getElem_zip]
    by_cases d1 : ((r.Reaches[k].Curve).length : Int) > 40
    · rw [decide_eq_true d1, decide_eq_false (show ¬ r.Reaches[k].Curve.length ≤ 40 by omega)]; rfl
    rw [decide_eq_false d1, decide_eq_true (show r.Reaches[k].Curve.length ≤ 40 by omega)]
    simp only [cond_false, Bool.true_and]
    by_cases d2 : s[k].length = s[0].length
    · rw [len_bne, decide_eq_true d2, wr_nat (by omega)]; rfl
    · rw [len_bne, decide_eq_false d2]; rfl
  · simp only [hz, L_thalwegtop_haulGood_1]
    rw [decide_eq_false (by omega)]; rfl
/-- The river's length. -/
theorem tot_loop {s : List (List TBounds)} {a b : TRun} {r : TRiver} {t : Tthalwegtop_HaulTrip} : ∀ (m : List TReach) (k : Nat) (acc : Int), r.Reaches.drop k = m → (∀ x ∈ m, 0 ≤ x.Length ∧ x.Length ≤ 5000) → 0 ≤ acc → acc ≤ 5000 * k → k + m.length ≤ 1000000 →
    loopC (L_thalwegtop_TopDeepEnough_1 s a b r t).step (acc, (k : Int)) = some (acc + tot m)
  | [], k, acc, hd, _, _, _, _ => by
    have := drop_nil hd
    have e : (L_thalwegtop_TopDeepEnough_1 s a b r t).step (acc, (k : Int)) = some (.inr acc) := by
      simp only [L_thalwegtop_TopDeepEnough_1, decide_eq_false (show ¬ (k : Int) < (r.Reaches.length : Int) by omega), cond_false]
    rw [loopC_eq, e]
    simp [tot]
  | x :: m, k, acc, hd, hm, h0, h1, h2 => by
    obtain ⟨hk, hx, hd2⟩ := drop_cons hd
    simp only [List.length_cons] at h2
    have hb := hm x (by simp)
    have e : (L_thalwegtop_TopDeepEnough_1 s a b r t).step (acc, (k : Int)) = some (.inl (acc + x.Length, ((k + 1 : Nat) : Int))) := by
      simp only [L_thalwegtop_TopDeepEnough_1, decide_eq_true (show (k : Int) < (r.Reaches.length : Int) by omega), cond_true, idx?_nat hk, hx, Option.bind_some]
      rw [wr_nat (by omega), wr_in (by omega) (by omega)]
    rw [loopC_eq, e]
    show loopC _ _ = _
    rw [tot_loop m (k + 1) _ hd2 (fun y hy => hm y (by simp [hy])) (by omega) (by omega) (by omega)]
    simp only [tot, Int.add_assoc]
/-- A pass of the law's way. -/
structure Wy (r : TRiver) (H : Nat) (v : TVoyage) (p : TPass) : Prop where
  ok : PassOk r H p
  on : onW v p.Place = true
  hours : p.Hours = ⟨(arrB v p.Place).Low / 60, (arrB v p.Place).High / 60⟩
theorem way_loop {r : TRiver} {s : List (List TBounds)} {H : Nat} (hg : Gd r s H) {t : Tthalwegtop_HaulTrip} (hv : voyV t.Voyage = true) {a b : TRun} (ea : a.From = (endsOf t.Voyage).1) (eb : b.To = (endsOf t.Voyage).2)
    (hn : t.Places.length ≤ 10) (hp : ∀ x ∈ t.Places, 0 ≤ x ∧ x ≤ 65535) : ∀ (m : List Int) (k : Nat) (way : List TPass), t.Places.drop k = m → way.length = k → (∀ p ∈ way, Wy r H t.Voyage p) → k + m.length ≤ 10 →
    loopC (L_thalwegtop_TopDeepEnough_2 s a b (tot r.Reaches) r t).step ((k : Int), way) = some (.inr true) ∨ ∃ w, loopC (L_thalwegtop_TopDeepEnough_2 s a b (tot r.Reaches) r t).step ((k : Int), way) = some (.inl w) ∧ w.length ≤ 10 ∧ ∀ p ∈ w, Wy r H t.Voyage p
  | [], k, way, hd, hw, hq, hk => by
    have := drop_nil hd
    have e : (L_thalwegtop_TopDeepEnough_2 s a b (tot r.Reaches) r t).step ((k : Int), way) = some (.inr (.inl way)) := by
      simp only [L_thalwegtop_TopDeepEnough_2, decide_eq_false (show ¬ (k : Int) < (t.Places.length : Int) by omega), cond_false]
    right
    refine ⟨way, ?_, by simp at hk; omega, hq⟩
    rw [loopC_eq, e]
  | x :: m, k, way, hd, hw, hq, hk => by
    obtain ⟨hk2, hx, hd2⟩ := drop_cons hd
    simp only [List.length_cons] at hk
    have hy := vy_of hv
    have hx0 := hp x (by rw [← hx]; exact List.getElem_mem _)
    have hl := hy.runs
    -- the ends
    have r1 := hy.each _ (List.getElem_mem (show 0 < t.Voyage.Runs.length by omega))
    have r2 := hy.each _ (List.getElem_mem (show t.Voyage.Runs.length - 1 < t.Voyage.Runs.length by omega))
    have f1 := r1.frm
    have f2 := r2.to
    rw [runD_get] at f1 f2
    have g1 : (endsOf t.Voyage).1 = (runD t.Voyage.Runs 0).From := rfl
    have g2 : (endsOf t.Voyage).2 = (runD t.Voyage.Runs (t.Voyage.Runs.length - 1)).To := rfl
    generalize hlo : minmax false (endsOf t.Voyage).1 (endsOf t.Voyage).2 = lo
    generalize hhi : minmax true (endsOf t.Voyage).1 (endsOf t.Voyage).2 = hi
    have hlo' := hlo
    have hhi' := hhi
    rw [mm_min] at hlo'
    rw [mm_max] at hhi'
    have b1 : 0 ≤ lo ∧ lo ≤ hi ∧ hi ≤ 100000 := by omega
    have h0 := Int.tmod_nonneg (hi - lo + 1) hx0.1
    have h1 := Int.tmod_lt_of_pos x (show 0 < hi - lo + 1 by omega)
    generalize hpl : lo + Int.tmod x (hi - lo + 1) = pl
    have hon : onW t.Voyage pl = true := by
      unfold onW; rw [hlo, hhi, inB_iff]; omega
    have hpl2 := onW_in hy hon
    have ha := arr_in hy hpl2
    have q1 := Int.tdiv_eq_ediv_of_nonneg (b := 60) ha.1
    have q2 := Int.tdiv_eq_ediv_of_nonneg (b := 60) ha.2.2.1
    have hs0 : 0 < s.length := by have := hg.fc.len; have := hg.fc.bounds; have := hg.fc.river; simp only [riverOk, Bool.and_eq_true, inB_iff] at this; omega
    have e0 : idx? s 0 = some s[0] := idx?_nat (k := 0) hs0
    have eH := hg.fc.hours _ (List.getElem_mem hs0)
    have E : (L_thalwegtop_TopDeepEnough_2 s a b (tot r.Reaches) r t).step ((k : Int), way) =
        bif decide (pl ≥ tot r.Reaches) then some (.inr (.inr true)) else bif decide ((arrB t.Voyage pl).High / 60 ≥ (H : Int)) then some (.inr (.inr true)) else some (.inl (((k + 1 : Nat) : Int), way ++ [⟨pl, ⟨(arrB t.Voyage pl).Low / 60, (arrB t.Voyage pl).High / 60⟩⟩])) := by
      simp only [L_thalwegtop_TopDeepEnough_2, decide_eq_true (show (k : Int) < (t.Places.length : Int) by omega), cond_true, idx?_nat hk2, hx, Option.bind_some, ea, eb, hlo, hhi]
      rw [wr_in (n := x) (by omega) (by omega), wr_in (n := hi - lo) (by omega) (by omega), wr_in (n := hi - lo + 1) (by omega) (by omega), nz_of (by omega), wr_in (n := lo + Int.tmod x (hi - lo + 1)) (by omega) (by omega), hpl, haulVoyage_eq (by omega)]
      simp only [Option.bind_some]
      rw [Tw.Arrive_eq, hv, hon]
      simp only [cond_true, Option.bind_some, bne_self_eq_false, cond_false]
      rw [decide_eq_false (show ¬ (arrB t.Voyage pl).Low < 0 by omega), decide_eq_false (show ¬ (arrB t.Voyage pl).Low > (arrB t.Voyage pl).High by omega)]
      simp only [cond_false, F_thalwegtop_knownRiver, Option.bind_some, e0, eH, q1, q2]
      rw [wr_in (n := (arrB t.Voyage pl).High / 60) (by omega) (by omega), wr_in (n := (arrB t.Voyage pl).Low / 60) (by omega) (by omega), app_of (by simp; omega) (by decide), wr_nat (by omega)]
      rfl
    by_cases c1 : pl ≥ tot r.Reaches
    · left; rw [loopC_eq, E, decide_eq_true c1]; rfl
    rw [decide_eq_false c1, cond_false] at E
    by_cases c2 : (arrB t.Voyage pl).High / 60 ≥ (H : Int)
    · left; rw [loopC_eq, E, decide_eq_true c2]; rfl
    rw [decide_eq_false c2, cond_false] at E
    rw [loopC_eq, E]
    show loopC _ _ = _ ∨ ∃ w, loopC _ _ = _ ∧ _
    exact way_loop hg hv ea eb hn hp m (k + 1) _ hd2 (by simp [hw]) (by
      intro p hp2
      rcases List.mem_append.1 hp2 with hp2 | hp2
      · exact hq p hp2
      · rw [List.mem_singleton.1 hp2]
        exact ⟨⟨by rw [inB_iff]; show 0 ≤ pl ∧ pl ≤ _; omega, by show 0 ≤ (arrB t.Voyage pl).Low / 60; omega, by show (arrB t.Voyage pl).Low / 60 ≤ (arrB t.Voyage pl).High / 60; omega, by show (arrB t.Voyage pl).High / 60 < _; omega⟩, hon, rfl⟩) (by omega)
/-- The runs of the truth, one at a time. -/
theorem truth_loop {r : TRiver} {s : List (List TBounds)} {t : Tthalwegtop_HaulTrip} (hv : voyV t.Voyage = true) (hb : byteL t.By) {y36 : TBounds × Int × Int × Int} {y40 : Int} {y38 : TVoyage} {s32 : List TPass} :
    loopC (L_thalwegtop_TopDeepEnough_3 s y36 r t y40 y38 s32).step (0, t.Voyage.Runs) = some (exL t.By t.Voyage.Runs 0) := by
  have hy := vy_of hv
  have hl := hy.runs
  have hel := exL_len t.By t.Voyage.Runs 0
  have hloop := loop_run (step := (L_thalwegtop_TopDeepEnough_3 s y36 r t y40 y38 s32).step) (fun k : Nat => ((k : Int), (exL t.By t.Voyage.Runs 0).take k ++ t.Voyage.Runs.drop k)) t.Voyage.Runs.length (e := exL t.By t.Voyage.Runs 0) (by
    intro k hk
    have ht : ((exL t.By t.Voyage.Runs 0).take k).length = k := by simp; omega
    have hlen : ((exL t.By t.Voyage.Runs 0).take k ++ t.Voyage.Runs.drop k).length = t.Voyage.Runs.length := by simp; omega
    have hk3 : k < ((exL t.By t.Voyage.Runs 0).take k ++ t.Voyage.Runs.drop k).length := by omega
    have hget : ((exL t.By t.Voyage.Runs 0).take k ++ t.Voyage.Runs.drop k)[k] = t.Voyage.Runs[k] := by
      rw [List.getElem_append_right (by omega)]; simp [ht]
    have hr := hy.each _ (List.getElem_mem hk)
    have q1 := pt_in hb (2 * (k : Int) + 1)
    have q2 := pt_in hb (2 * (k : Int) + 2)
    have z1 := hr.slo
    have z2 := hr.whi
    have z3 := hr.shi
    have z4 := hr.wlo
    simp only [L_thalwegtop_TopDeepEnough_3]
    rw [hlen, decide_eq_true (show (k : Int) < (t.Voyage.Runs.length : Int) by omega), cond_true, idx?_nat hk, Option.bind_some, wr_in (n := 2 * (k : Int)) (by omega) (by omega), wr_in (n := 2 * (k : Int) + 1) (by omega) (by omega), part_eq (by omega), Option.bind_some,
      pick_eq q1.1 q1.2 hr.sle (by omega) (by omega), Option.bind_some, Option.bind_some, wr_in (n := 2 * (k : Int) + 2) (by omega) (by omega), part_eq (by omega), Option.bind_some, pick_eq q2.1 q2.2 hr.wle (by omega) (by omega), Option.bind_some, idx?_nat hk3, Option.bind_some, hget, set?_of hk3, Option.bind_some,
      idx?_nat (by rw [List.length_set]; exact hk3), Option.bind_some, List.getElem_set_self, set?_of (by rw [List.length_set]; exact hk3), Option.bind_some, wr_nat (by omega), List.set_set]
    have e := exL_get t.By t.Voyage.Runs 0 k hk
    have hk4 : k < (exL t.By t.Voyage.Runs 0).length := by omega
    rw [List.getElem?_eq_getElem hk4] at e
    have e := Option.some.inj e
    rw [Nat.zero_add] at e
    show some (Sum.inl (_, _)) = some (Sum.inl (_, _))
    congr 3
    rw [List.take_succ_eq_append_getElem hk4, e, List.set_append_right _ _ (by omega), ht, Nat.sub_self, List.drop_eq_getElem_cons hk, List.set_cons_zero, List.append_assoc]
    rfl) (by
    simp only [L_thalwegtop_TopDeepEnough_3]
    rw [show (exL t.By t.Voyage.Runs 0).take t.Voyage.Runs.length ++ t.Voyage.Runs.drop t.Voyage.Runs.length = exL t.By t.Voyage.Runs 0 by rw [List.drop_length, List.append_nil, ← hel, List.take_length], decide_eq_false (by omega)]
    rfl)
  simpa using hloop
theorem deep_true {r : TRiver} {s : List (List TBounds)} {t : Tthalwegtop_HaulTrip} (hp : ∀ x ∈ t.Places, 0 ≤ x ∧ x ≤ 65535) (hb : byteL t.By) : F_thalwegtop_TopDeepEnough (r, s, t) = some true := by
  simp only [F_thalwegtop_TopDeepEnough, F_thalwegtop_knownRiver, Option.bind_some]
  obtain ⟨b, eb, gb⟩ := good_eq (r := r) (s := s)
  rw [eb]
  simp only [Option.bind_some]
  cases b with
  | false => rfl
  | true =>
  obtain ⟨H, hg⟩ := gb rfl
  simp only [Bool.not_true, cond_false]
  by_cases c1 : (t.Voyage.Runs.length : Int) < 1
  · rw [decide_eq_true c1]; rfl
  rw [decide_eq_false c1]; simp only [cond_false]
  by_cases c2 : (t.Voyage.Runs.length : Int) > 25
  · rw [decide_eq_true c2]; rfl
  rw [decide_eq_false c2]; simp only [cond_false]
  by_cases c3 : (t.Places.length : Int) > 10
  · rw [decide_eq_true c3]; rfl
  rw [decide_eq_false c3]; simp only [cond_false]
  rw [haulVoyage_eq (v := t.Voyage) (by omega)]
  simp only [Option.bind_some, Tw.Check_eq]
  cases hV : voyV t.Voyage with
  | false => rfl
  | true =>
  have hy := vy_of hV
  have hl := hy.runs
  have k0 : idx? t.Voyage.Runs 0 = some (runD t.Voyage.Runs 0) := by rw [← runD_get (by omega)]; exact idx?_nat (k := 0) (by omega)
  have k1 : idx? t.Voyage.Runs (wr ((t.Voyage.Runs.length : Int) - 1)) = some (runD t.Voyage.Runs (t.Voyage.Runs.length - 1)) := by
    rw [wr_in (by omega) (by omega), show (t.Voyage.Runs.length : Int) - 1 = ((t.Voyage.Runs.length - 1 : Nat) : Int) by omega, idx?_nat (by omega), runD_get]
  simp only [cond_true, bne_self_eq_false, cond_false, k0, k1, Option.bind_some]
  obtain ⟨hr, hrl⟩ := hg.fc.lens
  have h1 := tot_loop (s := s) (a := runD t.Voyage.Runs 0) (b := runD t.Voyage.Runs (t.Voyage.Runs.length - 1)) (r := r) (t := t) r.Reaches 0 0 rfl hr (by omega) (by omega) (by omega)
  rw [Int.zero_add] at h1
  have h1 : loopC (L_thalwegtop_TopDeepEnough_1 s (runD t.Voyage.Runs 0) (runD t.Voyage.Runs (t.Voyage.Runs.length - 1)) r t).step (0, 0) = some (tot r.Reaches) := h1
  rw [h1, Option.bind_some]
  have h2 := way_loop hg hV (a := runD t.Voyage.Runs 0) (b := runD t.Voyage.Runs (t.Voyage.Runs.length - 1)) rfl rfl (by omega) hp t.Places 0 [] rfl rfl (fun p hp => by cases hp) (by omega)
  rcases h2 with h2 | ⟨w, h2, hw, hq⟩
  · have h2 : loopC (L_thalwegtop_TopDeepEnough_2 s (runD t.Voyage.Runs 0) (runD t.Voyage.Runs (t.Voyage.Runs.length - 1)) (tot r.Reaches) r t).step (0, []) = some (.inr true) := h2
    rw [h2]; rfl
  have h2 : loopC (L_thalwegtop_TopDeepEnough_2 s (runD t.Voyage.Runs 0) (runD t.Voyage.Runs (t.Voyage.Runs.length - 1)) (tot r.Reaches) r t).step (0, []) = some (.inl w) := h2
  rw [h2, Option.bind_some]
  have hnr := hg.nr
  have hns := hg.ns
  have hm := hg.hm
  have hln := hg.fc.len
  have hs2 : ∀ x ∈ s, x.length ≤ 1000000 := fun x hx => by have := hg.fc.hours x hx; omega
  simp only [haulRiver_eq (r := r) hnr hns (fun x hx => by have := hg.cv x hx; omega), haulSides_eq (l := s) (by omega) hs2, Option.bind_some, app_nil (m := w) (n := 24) (by omega) (by decide), Shallowest_eq hg.fc hg.zero hs2 (way := w) (by omega)]
  by_cases cw : w.length = 0
  · have : wayErr r H w = 4 := by unfold wayErr; rw [if_pos cw]
    rw [this]
    simp [cw]
  have hok : ∀ x ∈ w, PassOk r H x := fun x hx => (hq x hx).ok
  rw [if_pos (wayErr_of hok cw (by omega))]
  obtain ⟨m, hL⟩ := least_of hg.fc hok (s := s) (fun e => cw (by simp [e]))
  have hm1 := hL.lt
  have hm2 := hL.pass
  have hord := least_ord hg.fc hok hL
  rw [show ((w.length : Int) == 0) = false by simp; exact fun e => cw (by simp [e])]
  simp only [cond_false, bne_self_eq_false]
  generalize hR : leastOf r s w = R at hL hm2 hord
  obtain ⟨R1, R2, R3, R4⟩ := R
  simp only at hm2 hord
  subst hm2
  rw [decide_eq_false (show ¬ ((m : Int) < 0) by omega), decide_eq_false (show ¬ ((m : Int) ≥ (w.length : Int)) by omega), decide_eq_false (show ¬ (R3 < 0) by omega), decide_eq_false (show ¬ (R3 > R4) by omega)]
  have st := hy.start
  have z := pt_in hb 0
  simp only [cond_false, part_eq (l := t.By) (Int.le_refl 0), Option.bind_some, pick_eq z.1 z.2 hy.sle (by omega) (by omega), truth_loop hV hb]
  have hloop := loop_run (step := (L_thalwegtop_TopDeepEnough_4 s (⟨R3, R4⟩, (m : Int), R2, 0) r (pk t.Voyage.Start (pt t.By 0)) t.Voyage w (exL t.By t.Voyage.Runs 0)).step) (fun k : Nat => (k : Int)) w.length (e := .inl ()) (by
    intro k hk
    have hwk := hq _ (List.getElem_mem hk)
    obtain ⟨tm, et, t1, t2⟩ := trueV_arr hb hV hwk.on
    have hpin := onW_in hy hwk.on
    have ha := arr_in hy hpin
    have eh := hwk.hours
    have el : (w[k]).Hours.Low = (arrB t.Voyage (w[k]).Place).Low / 60 := by rw [eh]
    have er : (w[k]).Hours.High = (arrB t.Voyage (w[k]).Place).High / 60 := by rw [eh]
    have pok := hwk.ok
    have p1 := pok.low
    have p2 := pok.high
    have hT : F_thalwegtop_haulVoyage ⟨⟨pk t.Voyage.Start (pt t.By 0), pk t.Voyage.Start (pt t.By 0)⟩, exL t.By t.Voyage.Runs 0, t.Voyage.Length, t.Voyage.Width⟩ = some (trueV t.Voyage t.By) := haulVoyage_eq (by rw [exL_len]; omega)
    have qd := Int.tdiv_eq_ediv_of_nonneg (b := 60) (show 0 ≤ tm by omega)
    have hD := DepthAt hg.fc hg.zero hs2 pok (k := tm / 60) (by omega) (by omega)
    obtain ⟨s1, s2, s3, s4, s5⟩ := passLo_spec (s := s) pok
    have a1 := hL.all _ (List.getElem_mem hk)
    have a2 := s4 (tm / 60) (by omega) (by omega)
    simp only at a1
    simp only [L_thalwegtop_TopDeepEnough_4]
    rw [decide_eq_true (show (k : Int) < (w.length : Int) by omega), cond_true, hT, Option.bind_some, idx?_nat hk, Option.bind_some, et, Option.bind_some]
    simp only [bne_self_eq_false, cond_false, qd, Option.bind_some]
    rw [wr_in (n := tm / 60) (by omega) (by omega), decide_eq_false (show ¬ (tm / 60 < (w[k]).Hours.Low) by omega), cond_false, decide_eq_false (show ¬ (tm / 60 > (w[k]).Hours.High) by omega), cond_false, haulRiver_eq (r := r) hnr hns (fun x hx => by have := hg.cv x hx; omega), Option.bind_some, haulSides_eq (l := s) (by omega) hs2, Option.bind_some, hD, Option.bind_some]
    simp only [bne_self_eq_false, cond_false]
    rw [decide_eq_false (show ¬ ((dAt r s (w[k]).Place (tm / 60)).Low < R3) by omega), cond_false, wr_nat (by omega)]
    by_cases cq : (dAt r s (w[k]).Place (tm / 60)).Low = R3
    · rw [show ((dAt r s (w[k]).Place (tm / 60)).Low == R3) = true by simpa using cq, cond_true]
      by_cases ck : (k : Int) = (m : Int)
      · rw [show ((k : Int) == (m : Int)) = true by simpa using ck, cond_true]
        have ck : k = m := by omega
        subst ck
        have g1 := hL.hour
        have g2 := hL.lo
        simp only at g1 g2
        rw [decide_eq_false (show ¬ (tm / 60 < R2) from fun c => by
          have := s5 (tm / 60) (by omega) (by omega)
          omega), cond_false]
      · rw [show ((k : Int) == (m : Int)) = false by simpa using ck, cond_false]
    · rw [show ((dAt r s (w[k]).Place (tm / 60)).Low == R3) = false by simpa using cq, cond_false]) (by
    simp only [L_thalwegtop_TopDeepEnough_4]
    rw [decide_eq_false (by omega)]; rfl)
  have hloop : loopC (L_thalwegtop_TopDeepEnough_4 s (⟨R3, R4⟩, (m : Int), R2, 0) r (pk t.Voyage.Start (pt t.By 0)) t.Voyage w (exL t.By t.Voyage.Runs 0)).step 0 = some (.inl ()) := hloop
  rw [hloop]
  rfl
end Go.Ev
/- The law on a voyage that is deep enough, by what is known of its arguments. -/
set_option linter.unusedVariables false
namespace Go.Ev
theorem byte_of {l : List Int} (h : kLIu8 l) : byteL l := fun x hx => by
  have := h.2 x hx
  simpa [kIu8, IntKind.min, IntKind.max, IntKind.bits, IntKind.signed] using this
theorem word_of {l : List Int} (h : kLIu16 l) : ∀ x ∈ l, 0 ≤ x ∧ x ≤ 65535 := fun x hx => by
  have := h.2 x hx
  simpa [kIu16, IntKind.min, IntKind.max, IntKind.bits, IntKind.signed] using this
theorem haul_deep_law {r : TRiver} {s : List (List TBounds)} {t : Tthalwegtop_HaulTrip} (h1 : kTRiver r) (h2 : kLLTBounds s) (h3 : kTthalwegtop_HaulTrip t) : F_thalwegtop_TopDeepEnough (r, s, t) = some true :=
  deep_true (word_of h3.2.1) (byte_of h3.2.2)
end Go.Ev
