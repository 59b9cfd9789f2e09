/- A part of the proof of RiverFlows. -/
import Derived.Test.YtcbkndfnjhfdpaaW9
/- Mathematics of earlier texts, as far as this text's functions go. -/
set_option linter.unusedVariables false
set_option linter.unusedSimpArgs false
namespace Go.Ev
noncomputable def L_thalwegref01_Of_1 (a0 : TRiver) : LoopD (Int × Int) (Int) (Unit) where
  step := fun s => match s with
    | (s1, s2) =>
      (idx? (a0.Reaches) (s2)).bind fun x5 =>
      bif (decide (s1 ≥ x5.Length)) then
        (idx? (a0.Reaches) (s2)).bind fun x6 =>
        some (.inl ((wr (s1 - x6.Length)), (wr (s2 + 1))))
      else
        some (.inr s2)
  at_ := fun s gh => match s, gh with
    | (s1, s2), () => ⟨[(1, (V.v (.int .i64 (s1)))), (2, (V.box 0 0)), (4, (V.v (.int .i64 (0)))), (5, (V.v (.int .i64 (s2))))], [(0, Bx.var [(V.sl (recs eTReach (a0.Reaches)) (a0.Reaches).length), (V.sl (recs eTShoal (a0.Shoals)) (a0.Shoals).length)] false)], 1⟩
noncomputable def F_thalwegref01_Of : (TRiver × Int) → Option (Int) := fun x => match x with
  | (a0, a1) =>
    (loopC (L_thalwegref01_Of_1 a0).step (a1, 0)).bind fun e => match e with
    | s7 =>
      some s7

set_option maxHeartbeats 1000000

theorem every_int {l : List Int} {p : Int → Option Bool} {q : Int → Bool} {g : FuncId} {caps : List V} (hp : ∀ x ∈ l, p x = some (q x)) (hl : l.length ≤ 4611686018427387904) : F_numbers_Every_int (l, p, g, caps) = some (l.all q) := by
  unfold F_numbers_Every_int
  simp only
  rw [show (0 : Int) = ((0 : Nat) : Int) from rfl, loop_list l (fun k => (k : Int)) q (e := .inl ()) (f := .inr false)]
  · cases l.all q <;> rfl
  · intro k hk
    simp only [L_numbers_Every_int_1, Int.ofNat_lt, hk, decide_true, cond_true, idx?_nat hk, Option.bind_some, hp _ (List.getElem_mem hk), wr_nat (show k < 9223372036854775807 by omega)]
    cases q l[k] <;> rfl
  · simp [L_numbers_Every_int_1]
theorem every_Reach {l : List TReach} {p : TReach → Option Bool} {q : TReach → Bool} {g : FuncId} {caps : List V} (hp : ∀ x ∈ l, p x = some (q x)) (hl : l.length ≤ 4611686018427387904) : F_numbers_Every_Reach (l, p, g, caps) = some (l.all q) := by
  unfold F_numbers_Every_Reach
  simp only
  rw [show (0 : Int) = ((0 : Nat) : Int) from rfl, loop_list l (fun k => (k : Int)) q (e := .inl ()) (f := .inr false)]
  · cases l.all q <;> rfl
  · intro k hk
    simp only [L_numbers_Every_Reach_1, Int.ofNat_lt, hk, decide_true, cond_true, idx?_nat hk, Option.bind_some, hp _ (List.getElem_mem hk), wr_nat (show k < 9223372036854775807 by omega)]
    cases q l[k] <;> rfl
  · simp [L_numbers_Every_Reach_1]
theorem every_RateRow {l : List TRateRow} {p : TRateRow → Option Bool} {q : TRateRow → Bool} {g : FuncId} {caps : List V} (hp : ∀ x ∈ l, p x = some (q x)) (hl : l.length ≤ 4611686018427387904) : F_numbers_Every_RateRow (l, p, g, caps) = some (l.all q) := by
  unfold F_numbers_Every_RateRow
  simp only
  rw [show (0 : Int) = ((0 : Nat) : Int) from rfl, loop_list l (fun k => (k : Int)) q (e := .inl ()) (f := .inr false)]
  · cases l.all q <;> rfl
  · intro k hk
    simp only [L_numbers_Every_RateRow_1, Int.ofNat_lt, hk, decide_true, cond_true, idx?_nat hk, Option.bind_some, hp _ (List.getElem_mem hk), wr_nat (show k < 9223372036854775807 by omega)]
    cases q l[k] <;> rfl
  · simp [L_numbers_Every_RateRow_1]
theorem every_Shoal {l : List TShoal} {p : TShoal → Option Bool} {q : TShoal → Bool} {g : FuncId} {caps : List V} (hp : ∀ x ∈ l, p x = some (q x)) (hl : l.length ≤ 4611686018427387904) : F_numbers_Every_Shoal (l, p, g, caps) = some (l.all q) := by
  unfold F_numbers_Every_Shoal
  simp only
  rw [show (0 : Int) = ((0 : Nat) : Int) from rfl, loop_list l (fun k => (k : Int)) q (e := .inl ()) (f := .inr false)]
  · cases l.all q <;> rfl
  · intro k hk
    simp only [L_numbers_Every_Shoal_1, Int.ofNat_lt, hk, decide_true, cond_true, idx?_nat hk, Option.bind_some, hp _ (List.getElem_mem hk), wr_nat (show k < 9223372036854775807 by omega)]
    cases q l[k] <;> rfl
  · simp [L_numbers_Every_Shoal_1]

theorem bif_and (a b : Bool) : (bif a then some b else some false) = some (a && b) := by cases a <;> rfl
theorem within1_eq (n a b : Int) : F_numbers_Within_1 (n, a, b) = some (inB n a b) := by
  simp only [F_numbers_Within_1, bif_and, inB]
theorem within_eq (a b : Int) (l : List Int) (hl : l.length ≤ 4611686018427387904) : F_numbers_Within (a, b, l) = some (l.all fun n => inB n a b) := by
  simp only [F_numbers_Within]
  rw [every_int (q := fun n => inB n a b) (fun x _ => within1_eq x a b) hl]
  rfl
theorem within1 (a b n : Int) : F_numbers_Within (a, b, [n]) = some (inB n a b) := by rw [within_eq _ _ _ (by simp)]; simp
theorem within2 (a b n m : Int) : F_numbers_Within (a, b, [n, m]) = some (inB n a b && inB m a b) := by rw [within_eq _ _ _ (by simp)]; simp
def vB (b : TBounds) (x y : Int) : Bool := decide (b.Low ≤ b.High) && (inB b.Low x y && inB b.High x y)
theorem valid_eq (b : TBounds) (x y : Int) : F_numbers_Valid (b, x, y) = some (vB b x y) := by
  simp only [F_numbers_Valid, within2, Option.bind_some, bif_and, vB]
theorem In_eq (n a b : Int) : F_thalwegref01_In (n, a, b) = some (inB n a b) := by
  simp only [F_thalwegref01_In, ge_iff_le, bif_and, inB]
theorem rvalid_eq (b : TBounds) (x y : Int) : F_thalwegref01_Valid (b, x, y) = some (vB b x y) := by
  simp only [F_thalwegref01_Valid, In_eq, Option.bind_some, bif_and]
  congr 1
  rw [Bool.eq_iff_iff]
  simp only [vB, inB, Bool.and_eq_true, decide_eq_true_eq]
  omega

def rowOk (x : TRateRow) : Bool := inB x.Flow 0 10000000000 && inB x.Level 0 10000
def pairOk (p : TRateRow × TRateRow) : Bool := decide (p.1.Flow < p.2.Flow) && decide (p.1.Level ≤ p.2.Level)
def curveOk (l : List TRateRow) : Bool := inB l.length 2 30 && ((pairs l).all pairOk && l.all rowOk)
theorem vc2_eq (x : TRateRow) : F_river_validCurve_2 x = some (rowOk x) := by
  simp only [F_river_validCurve_2, within1, Option.bind_some, bif_and, rowOk]
theorem vc1_eq (a b : TRateRow) : F_river_validCurve_1 (a, b) = some (pairOk (a, b)) := by
  simp only [F_river_validCurve_1, bif_and, pairOk]
theorem validCurve_eq (l : List TRateRow) : F_river_validCurve l = some (curveOk l) := by
  unfold F_river_validCurve
  simp only [within1, Option.bind_some]
  cases hl : inB l.length 2 30 with
  | false => simp [curveOk, hl]
  | true =>
    rw [inB_iff] at hl
    simp only [Bool.not_true, cond_false]
    rw [show (1 : Int) = (((0 : Nat) + 1 : Nat) : Int) from rfl, loop_list (pairs l) (fun k => ((k + 1 : Nat) : Int)) pairOk (e := .inl ()) (f := .inr false)]
    · cases hp : (pairs l).all pairOk with
      | false => simp [curveOk, hp]
      | true =>
        simp only [if_true, Option.bind_some]
        rw [every_RateRow (q := rowOk) (fun x _ => vc2_eq x) (by omega)]
        simp [curveOk, hp, inB, hl]
    · intro k hk
      have hk' := hk
      rw [pairs_length] at hk'
      rw [pairs_get]
      simp only [L_river_validCurve_1, show decide (((k + 1 : Nat) : Int) < (l.length : Int)) = true by simp; omega, cond_true]
      rw [show wr (((k + 1 : Nat) : Int) - 1) = (k : Int) by rw [wr_in] <;> omega, idx?_nat (show k < l.length by omega), idx?_nat (show k + 1 < l.length by omega)]
      simp only [Option.bind_some, vc1_eq]
      rw [wr_nat (by omega)]
      cases pairOk (l[k], l[k + 1]) <;> rfl
    · simp only [L_river_validCurve_1, pairs_length]
      rw [show l.length - 1 + 1 = l.length by omega]
      simp
def reachOk (x : TReach) : Bool := inB x.Length 1 5000 && (inB x.Delay 0 200 && ((inB x.Weir 0 10000 && inB x.Flood 0 10000) && (vB x.Base 0 10000000000 && (vB x.Bottom 0 10000 && curveOk x.Curve))))
theorem validReach_eq (x : TReach) : F_river_validReach x = some (reachOk x) := by
  simp only [F_river_validReach, within1, within2, valid_eq, validCurve_eq, Option.bind_some, bif_and, reachOk]
set_option maxHeartbeats 1000000

theorem bif_not' (a : Bool) (x : Option Bool) : (bif (!a) then some false else x) = bif a then x else some false := by cases a <;> rfl
/-- What a reference asks of the rows of a curve, row by row. -/
def rowAt (l : List TRateRow) (k : Nat) : Bool := match l[k]? with
  | none => true
  | some x => rowOk x && (decide (k = 0) || match l[k - 1]? with
    | none => true
    | some y => pairOk (y, x))
theorem all_rows (l : List TRateRow) : (List.range l.length).all (rowAt l) = ((pairs l).all pairOk && l.all rowOk) := by
  rw [Bool.eq_iff_iff]
  simp only [List.all_eq_true, Bool.and_eq_true, List.mem_range]
  constructor
  · intro h
    refine ⟨fun p hp => ?_, fun x hx => ?_⟩
    · obtain ⟨k, hk, rfl⟩ := List.getElem_of_mem hp
      rw [pairs_get]
      have hk' := hk
      rw [pairs_length] at hk'
      have := h (k + 1) (by omega)
      unfold rowAt at this
      rw [List.getElem?_eq_getElem (show k + 1 < l.length by omega)] at this
      simp only [Nat.add_sub_cancel, List.getElem?_eq_getElem (show k < l.length by omega), Bool.and_eq_true, Bool.or_eq_true] at this
      rcases this.2 with h1 | h1
      · simp at h1
      · exact h1
    · obtain ⟨k, hk, rfl⟩ := List.getElem_of_mem hx
      have := h k hk
      unfold rowAt at this
      rw [List.getElem?_eq_getElem hk] at this
      simp only [Bool.and_eq_true] at this
      exact this.1
  · rintro ⟨h1, h2⟩ k hk
    unfold rowAt
    rw [List.getElem?_eq_getElem hk]
    simp only [Bool.and_eq_true, Bool.or_eq_true]
    refine ⟨h2 _ (List.getElem_mem hk), ?_⟩
    cases k with
    | zero => left; rfl
    | succ k =>
      right
      rw [Nat.add_sub_cancel, List.getElem?_eq_getElem (show k < l.length by omega)]
      have hp : k < (pairs l).length := by rw [pairs_length]; omega
      have := h1 _ (List.getElem_mem hp)
      rwa [pairs_get] at this

theorem loop_range {S E : Type} {step : S → Option (S ⊕ E)} (n : Nat) (st : Nat → S) (q : Nat → Bool) {e f : E} (h : ∀ k, k < n → step (st k) = some (if q k then .inl (st (k + 1)) else .inr f)) (he : step (st n) = some (.inr e)) :
    loopC step (st 0) = some (if (List.range n).all q then e else f) := by
  have := loop_list (List.range n) st q (e := e) (f := f) (step := step) (by intro k hk; simpa using h k (by simpa using hk)) (by simpa using he)
  exact this

theorem refReach_eq (x : TReach) : F_thalwegref01_Reach x = some (reachOk x) := by
  unfold F_thalwegref01_Reach
  simp only [In_eq, rvalid_eq, Option.bind_some, bif_not']
  cases hl : inB x.Curve.length 2 30 with
  | false =>
    have : reachOk x = false := by simp [reachOk, curveOk, hl]
    rw [this]
    simp only [cond_false]
    cases inB x.Length 1 5000 <;> cases inB x.Delay 0 200 <;> cases vB x.Base 0 10000000000 <;> rfl
  | true =>
    have hl2 := inB_iff.1 hl
    rw [show (0 : Int) = ((0 : Nat) : Int) from rfl, loop_range x.Curve.length (fun k => (k : Int)) (rowAt x.Curve) (e := .inl ()) (f := .inr false)]
    · rw [all_rows]
      simp only [reachOk, curveOk, hl]
      cases inB x.Length 1 5000 <;> cases inB x.Delay 0 200 <;> cases vB x.Base 0 10000000000 <;> cases inB x.Weir 0 10000 <;> cases vB x.Bottom 0 10000 <;> cases inB x.Flood 0 10000 <;> cases (pairs x.Curve).all pairOk <;> cases x.Curve.all rowOk <;> rfl
    · intro k hk
      simp only [L_thalwegref01_Reach_1, Int.ofNat_lt, hk, decide_true, cond_true, idx?_nat hk, Option.bind_some, In_eq]
      rw [wr_nat (by omega)]
      simp only [rowAt, List.getElem?_eq_getElem hk, rowOk]
      cases inB x.Curve[k].Flow 0 10000000000 with
      | false => rfl
      | true =>
        cases inB x.Curve[k].Level 0 10000 with
        | false => rfl
        | true =>
          simp only [Bool.not_true, cond_false, Bool.and_self, Bool.true_and]
          cases k with
          | zero => rfl
          | succ k =>
            simp only [show decide (((k + 1 : Nat) : Int) > 0) = true by simp, cond_true]
            rw [show wr (((k + 1 : Nat) : Int) - 1) = (k : Int) by rw [wr_in] <;> omega, idx?_nat (show k < x.Curve.length by omega)]
            simp only [Option.bind_some, Nat.add_sub_cancel, List.getElem?_eq_getElem (show k < x.Curve.length by omega), pairOk, show decide (k + 1 = 0) = false by simp, Bool.false_or]
            by_cases h1 : x.Curve[k + 1].Flow ≤ x.Curve[k].Flow
            · simp [h1, show ¬ x.Curve[k].Flow < x.Curve[k + 1].Flow by omega]
            · by_cases h2 : x.Curve[k + 1].Level < x.Curve[k].Level
              · simp [h1, h2, show x.Curve[k].Flow < x.Curve[k + 1].Flow by omega, show ¬ x.Curve[k].Level ≤ x.Curve[k + 1].Level by omega]
              · simp [h1, h2, show x.Curve[k].Flow < x.Curve[k + 1].Flow by omega, show x.Curve[k].Level ≤ x.Curve[k + 1].Level by omega]
    · simp [L_thalwegref01_Reach_1]
set_option maxHeartbeats 1000000

theorem drop_cons {α : Type} {l m : List α} {k : Nat} {x : α} (h : l.drop k = x :: m) : ∃ hk : k < l.length, l[k] = x ∧ l.drop (k + 1) = m := by
  have hk : k < l.length := by
    rcases Nat.lt_or_ge k l.length with e | e
    · exact e
    · rw [List.drop_of_length_le e] at h; cases h
  rw [List.drop_eq_getElem_cons hk] at h
  cases h
  exact ⟨hk, rfl, rfl⟩
theorem drop_nil {α : Type} {l : List α} {k : Nat} (h : l.drop k = []) : l.length ≤ k := by
  have := congrArg List.length h
  simpa using Nat.le_of_sub_eq_zero (by simpa using this)

def tot : List TReach → Int
  | [] => 0
  | x :: m => x.Length + tot m
def findGo (place : Int) (sh : List TShoal) : List TReach → Int → Nat → Option Triver_site
  | [], _, _ => none
  | x :: m, e, k => if 0 ≤ place ∧ place < e + x.Length then some ⟨x, k, place, sh⟩ else findGo place sh m (e + x.Length) (k + 1)
theorem find_loop (r : TRiver) (place : Int) : ∀ (m : List TReach) (k : Nat) (e : Int), r.Reaches.drop k = m → (∀ x ∈ m, 0 ≤ x.Length ∧ x.Length ≤ 5000) → 0 ≤ e → e ≤ 5000 * k → k + m.length ≤ 1000000 →
    loopC (L_river_find_1 place r).step (e, (k : Int)) = some (match findGo place r.Shoals m e k with | some s => .inr (s, true) | none => .inl ())
  | [], k, e, h, _, _, _, _ => by
    have := drop_nil h
    rw [loopC_eq]
    simp [L_river_find_1, show ¬ k < r.Reaches.length by omega, findGo]
  | x :: m, k, e, h, hx, h0, h1, hk => by
    obtain ⟨hl, hg, hd⟩ := drop_cons h
    have hx0 := hx x (by simp)
    simp only [List.length_cons] at hk
    have hs : (L_river_find_1 place r).step (e, (k : Int)) = if 0 ≤ place ∧ place < e + x.Length then some (.inr (.inr (⟨x, k, place, r.Shoals⟩, true))) else some (.inl (e + x.Length, ((k + 1 : Nat) : Int))) := by
      simp only [L_river_find_1, Int.ofNat_lt, hl, decide_true, cond_true, idx?_nat hl, Option.bind_some, hg]
      rw [wr_in (n := e + x.Length) (by omega) (by omega), wr_nat (by omega)]
      by_cases c1 : 0 ≤ place
      · by_cases c2 : place < e + x.Length <;> simp [c1, c2]
      · simp [c1]
    have ih := find_loop r place m (k + 1) (e + x.Length) hd (fun y hy => hx y (by simp [hy])) (by omega) (by omega) (by omega)
    rw [loopC_eq, hs, findGo]
    by_cases c : 0 ≤ place ∧ place < e + x.Length
    · rw [if_pos c, if_pos c]
    · rw [if_neg c, if_neg c]; exact ih
def noSite : Triver_site := ⟨⟨0, 0, ⟨0, 0⟩, [], 0, ⟨0, 0⟩, 0⟩, 0, 0, []⟩
theorem find_eq {r : TRiver} {place : Int} (hr : ∀ x ∈ r.Reaches, 0 ≤ x.Length ∧ x.Length ≤ 5000) (hl : r.Reaches.length ≤ 1000) :
    F_river_find (r, place) = some (match findGo place r.Shoals r.Reaches 0 0 with | some s => (s, true) | none => (noSite, false)) := by
  unfold F_river_find
  simp only
  rw [show ((0 : Int), (0 : Int)) = ((0 : Int), ((0 : Nat) : Int)) from rfl, find_loop r place r.Reaches 0 0 rfl hr (by omega) (by omega) (by omega)]
  cases findGo place r.Shoals r.Reaches 0 0 with
  | none => rfl
  | some s => rfl
theorem tot_nonneg : ∀ {m : List TReach}, (∀ x ∈ m, 0 ≤ x.Length ∧ x.Length ≤ 5000) → 0 ≤ tot m
  | [], _ => by simp [tot]
  | x :: m, h => by
    have h0 := h x (by simp)
    have := tot_nonneg (m := m) fun y hy => h y (by simp [hy])
    rw [tot]
    omega
theorem findGo_some {place : Int} {sh : List TShoal} : ∀ {m : List TReach} {e : Int} {k : Nat}, (∀ x ∈ m, 0 ≤ x.Length ∧ x.Length ≤ 5000) → (0 ≤ place → e ≤ place) → ((findGo place sh m e k).isSome = true ↔ 0 ≤ place ∧ place < e + tot m)
  | [], e, k, _, h => by
    rw [findGo, tot]
    constructor
    · intro h; cases h
    · rintro ⟨h1, h2⟩; have := h h1; omega
  | x :: m, e, k, hx, h => by
    have hx0 := hx x (by simp)
    have ht := tot_nonneg fun y (hy : y ∈ m) => hx y (by simp [hy])
    rw [findGo, tot]
    by_cases c : 0 ≤ place ∧ place < e + x.Length
    · rw [if_pos c]
      exact ⟨fun _ => ⟨c.1, by omega⟩, fun _ => rfl⟩
    · rw [if_neg c, findGo_some (e := e + x.Length) (fun y hy => hx y (by simp [hy])) (by intro hp; have := h hp; omega), Int.add_assoc]

def shoalOk (r : TRiver) (s : TShoal) : Bool := inB s.Place 0 (tot r.Reaches - 1) && (inB s.Sounded (-400) 400 && (vB s.Bed 0 10000 && vB s.Grow (-500) 500))
theorem validShoal_eq {r : TRiver} {s : TShoal} (hr : ∀ x ∈ r.Reaches, 0 ≤ x.Length ∧ x.Length ≤ 5000) (hl : r.Reaches.length ≤ 1000) : F_river_validShoal (r, s) = some (shoalOk r s) := by
  have hf := findGo_some (place := s.Place) (sh := r.Shoals) (e := 0) (k := 0) hr (by omega)
  have hf : (findGo s.Place r.Shoals r.Reaches 0 0).isSome = inB s.Place 0 (tot r.Reaches - 1) := by
    rw [Bool.eq_iff_iff, hf, inB_iff]; omega
  simp only [F_river_validShoal, find_eq hr hl, Option.bind_some, within1, valid_eq, bif_and, shoalOk, ← hf]
  cases findGo s.Place r.Shoals r.Reaches 0 0 <;> rfl

theorem reachOk_len {x : TReach} (h : reachOk x = true) : 0 ≤ x.Length ∧ x.Length ≤ 5000 := by
  simp only [reachOk, Bool.and_eq_true, inB_iff] at h
  omega
def riverOk (r : TRiver) : Bool := inB r.Reaches.length 1 20 && (r.Reaches.all reachOk && (decide (r.Shoals.length ≤ 40) && r.Shoals.all (shoalOk r)))
theorem Check_eq (r : TRiver) : F_river_Check r = some (if riverOk r then 0 else 2) := by
  unfold F_river_Check
  simp only [within1, Option.bind_some]
  cases h1 : inB r.Reaches.length 1 20 with
  | false => simp [riverOk, h1]
  | true =>
    have hl := inB_iff.1 h1
    simp only [Bool.not_true, cond_false]
    rw [every_Reach (q := reachOk) (fun x _ => validReach_eq x) (by omega)]
    cases h2 : r.Reaches.all reachOk with
    | false => simp [riverOk, h1, h2]
    | true =>
      have hr : ∀ x ∈ r.Reaches, 0 ≤ x.Length ∧ x.Length ≤ 5000 := fun x hx => reachOk_len (List.all_eq_true.1 h2 x hx)
      simp only [Option.bind_some, Bool.not_true, cond_false]
      by_cases h3 : r.Shoals.length ≤ 40
      · rw [every_Shoal (q := shoalOk r) (fun x _ => by simp only [F_river_Check_1, validShoal_eq hr (by omega), Option.bind_some]) (by omega)]
        simp only [show decide ((r.Shoals.length : Int) > 40) = false by simp; omega, cond_false, Option.bind_some, riverOk, h1, h2, h3, decide_true, Bool.true_and]
        cases r.Shoals.all (shoalOk r) <;> rfl
      · simp only [show decide ((r.Shoals.length : Int) > 40) = true by simp; omega, cond_true, riverOk, h1, h2, h3, decide_false, Bool.true_and, Bool.false_and]
        rfl

theorem tot_bound : ∀ {m : List TReach}, (∀ x ∈ m, 0 ≤ x.Length ∧ x.Length ≤ 5000) → 0 ≤ tot m ∧ tot m ≤ 5000 * m.length
  | [], _ => by simp [tot]
  | x :: m, h => by
    have h0 := h x (by simp)
    have := tot_bound (m := m) fun y hy => h y (by simp [hy])
    simp only [tot, List.length_cons]
    omega
theorem places_loop (r : TRiver) : ∀ (m : List TReach) (k : Nat) (e : Int), r.Reaches.drop k = m → (∀ x ∈ m, 0 ≤ x.Length ∧ x.Length ≤ 5000) → 0 ≤ e → e ≤ 5000 * k → k + m.length ≤ 1000000 →
    loopC (L_thalwegref01_Places_1 r).step (e, (k : Int)) = some (e + tot m)
  | [], k, e, h, _, _, _, _ => by
    have := drop_nil h
    rw [loopC_eq]
    simp [L_thalwegref01_Places_1, show ¬ k < r.Reaches.length by omega, tot]
  | x :: m, k, e, h, hx, h0, h1, hk => by
    obtain ⟨hl, hg, hd⟩ := drop_cons h
    have hx0 := hx x (by simp)
    simp only [List.length_cons] at hk
    have hs : (L_thalwegref01_Places_1 r).step (e, (k : Int)) = some (.inl (e + x.Length, ((k + 1 : Nat) : Int))) := by
      simp only [L_thalwegref01_Places_1, Int.ofNat_lt, hl, decide_true, cond_true, idx?_nat hl, Option.bind_some, hg]
      rw [wr_in (n := e + x.Length) (by omega) (by omega), wr_nat (by omega)]
    rw [loopC_eq, hs, tot]
    simp only
    rw [places_loop r m (k + 1) (e + x.Length) hd (fun y hy => hx y (by simp [hy])) (by omega) (by omega) (by omega), Int.add_assoc]
theorem Places_eq {r : TRiver} (hr : ∀ x ∈ r.Reaches, 0 ≤ x.Length ∧ x.Length ≤ 5000) (hl : r.Reaches.length ≤ 1000) : F_thalwegref01_Places r = some (tot r.Reaches) := by
  unfold F_thalwegref01_Places
  simp only
  rw [show ((0 : Int), (0 : Int)) = ((0 : Int), ((0 : Nat) : Int)) from rfl, places_loop r r.Reaches 0 0 rfl hr (by omega) (by omega) (by omega), Int.zero_add]
  rfl
theorem four {α : Type} (a b c d : Bool) (x y : α) : (bif (!a) then some y else bif (!b) then some y else bif (!c) then some y else bif (!d) then some y else some x) = some (if (a && (c && (b && d))) = true then x else y) := by
  cases a <;> cases b <;> cases c <;> cases d <;> rfl
theorem refRiver_eq (r : TRiver) : F_thalwegref01_River r = some (riverOk r) := by
  unfold F_thalwegref01_River
  simp only [In_eq, Option.bind_some]
  cases h1 : inB r.Reaches.length 1 20 with
  | false => simp [riverOk, h1]
  | true =>
    have hl := inB_iff.1 h1
    simp only [Bool.not_true, cond_false]
    by_cases h3 : r.Shoals.length ≤ 40
    · simp only [show decide ((r.Shoals.length : Int) > 40) = false by simp; omega, cond_false]
      rw [show (0 : Int) = ((0 : Nat) : Int) from rfl, loop_list r.Reaches (fun k => (k : Int)) reachOk (e := .inl ()) (f := .inr false)]
      · cases h2 : r.Reaches.all reachOk with
        | false => simp [riverOk, h2]
        | true =>
          have hr : ∀ x ∈ r.Reaches, 0 ≤ x.Length ∧ x.Length ≤ 5000 := fun x hx => reachOk_len (List.all_eq_true.1 h2 x hx)
          have hb := tot_bound hr
          simp only [if_true, Option.bind_some]
          rw [loop_list r.Shoals (fun k => (k : Int)) (shoalOk r) (e := .inl ()) (f := .inr false)]
          · simp only [riverOk, h1, h2, h3, decide_true, Bool.true_and]
            cases r.Shoals.all (shoalOk r) <;> rfl
          · intro k hk
            simp only [L_thalwegref01_River_2, Int.ofNat_lt, hk, decide_true, cond_true, idx?_nat hk, Option.bind_some, Places_eq hr (by omega), In_eq, rvalid_eq, shoalOk]
            rw [wr_nat (by omega), wr_in (n := tot r.Reaches - 1) (by omega) (by omega)]
            exact four _ _ _ _ _ _
          · simp [L_thalwegref01_River_2]
      · intro k hk
        simp only [L_thalwegref01_River_1, Int.ofNat_lt, hk, decide_true, cond_true, idx?_nat hk, Option.bind_some, refReach_eq]
        rw [wr_nat (by omega)]
        cases reachOk r.Reaches[k] <;> rfl
      · simp [L_thalwegref01_River_1]
    · simp only [show decide ((r.Shoals.length : Int) > 40) = true by simp; omega, cond_true, riverOk, h1, h3, decide_false, Bool.true_and, Bool.false_and, Bool.and_false]
set_option maxHeartbeats 1000000

theorem copied_eq {r : TRiver} (h1 : r.Reaches.length ≤ 1000000) (h2 : r.Shoals.length ≤ 1000000) (h3 : ∀ x ∈ r.Reaches, x.Curve.length ≤ 1000000) : F_thalweglaw01_copied r = some r := by
  unfold F_thalweglaw01_copied
  simp only
  rw [show ((0 : Int), ([] : List TReach)) = (fun k : Nat => ((k : Int), r.Reaches.take k)) 0 from rfl, loop_run (fun k : Nat => ((k : Int), r.Reaches.take k)) r.Reaches.length (e := r.Reaches)]
  · simp only [Option.bind_some, app_nil (m := r.Shoals) (n := 48) (by omega) (by decide)]
  · intro k hk
    simp only [L_thalweglaw01_copied_1, Int.ofNat_lt, hk, decide_true, cond_true, idx?_nat hk, Option.bind_some]
    have := h3 _ (List.getElem_mem hk)
    rw [app_nil (by omega) (by decide)]
    simp only [Option.bind_some]
    rw [app_of (by simp [Nat.min_eq_left (Nat.le_of_lt hk)]; omega) (by decide), wr_nat (by omega)]
    simp only [Option.bind_some, List.take_succ_eq_append_getElem hk]
  · simp [L_thalweglaw01_copied_1]
theorem unchanged_eq {r : TRiver} (h1 : r.Reaches.length ≤ 1000000) (h2 : r.Shoals.length ≤ 1000000) (h3 : ∀ x ∈ r.Reaches, x.Curve.length ≤ 1000000) : F_thalweglaw01_unchanged (r, r) = some true := by
  unfold F_thalweglaw01_unchanged
  simp only [bne_self_eq_false, cond_false]
  rw [show (0 : Int) = ((0 : Nat) : Int) from rfl, loop_run (fun k : Nat => (k : Int)) r.Reaches.length (e := .inl ())]
  · simp only [Option.bind_some]
    rw [loop_run (fun k : Nat => (k : Int)) r.Shoals.length (e := .inl ())]
    · rfl
    · intro k hk
      simp only [L_thalweglaw01_unchanged_3, Int.ofNat_lt, hk, decide_true, cond_true, idx?_nat hk, Option.bind_some, beq_self_eq_true, Bool.and_self, Bool.not_true, cond_false]
      rw [wr_nat (by omega)]
    · simp [L_thalweglaw01_unchanged_3]
  · intro k hk
    simp only [L_thalweglaw01_unchanged_2, Int.ofNat_lt, hk, decide_true, cond_true, idx?_nat hk, Option.bind_some, beq_self_eq_true, bne_self_eq_false, Bool.and_self, Bool.not_true, cond_false]
    have := h3 _ (List.getElem_mem hk)
    rw [show (0 : Int) = ((0 : Nat) : Int) from rfl, loop_run (fun j : Nat => (j : Int)) r.Reaches[k].Curve.length (e := .inl ())]
    · simp only [Option.bind_some]
      rw [wr_nat (by omega)]
    · intro j hj
      simp only [L_thalweglaw01_unchanged_1, Int.ofNat_lt, hj, decide_true, cond_true, idx?_nat hj, Option.bind_some, beq_self_eq_true, Bool.and_self, Bool.not_true, cond_false]
      rw [wr_nat (by omega)]
    · simp [L_thalweglaw01_unchanged_1]
  · simp [L_thalweglaw01_unchanged_2]
set_option maxHeartbeats 1000000

theorem tdiv_tmod {a b : Int} (hb : 0 < b) : b * a.tdiv b + a.tmod b = a ∧ -b < a.tmod b ∧ a.tmod b < b ∧ (0 ≤ a → 0 ≤ a.tmod b) ∧ (a ≤ 0 → a.tmod b ≤ 0) := by
  refine ⟨Int.mul_tdiv_add_tmod a b, ?_, ?_, ?_, ?_⟩
  · rcases Int.le_total 0 a with h | h
    · have := Int.tmod_nonneg b h; omega
    · have h1 := Int.tmod_nonneg b (a := -a) (by omega)
      have h2 := Int.tmod_lt_of_pos (-a) hb
      rw [Int.neg_tmod] at h1 h2; omega
  · exact Int.tmod_lt_of_pos a hb
  · exact fun h => Int.tmod_nonneg b h
  · intro h
    have h1 := Int.tmod_nonneg b (a := -a) (by omega)
    rw [Int.neg_tmod] at h1; omega
theorem tdiv_le {a b : Int} (hb : 0 < b) : -a.natAbs ≤ a.tdiv b ∧ a.tdiv b ≤ a.natAbs := by
  have h : (a.tdiv b).natAbs ≤ a.natAbs := by
    rw [Int.natAbs_tdiv]; exact Nat.div_le_self _ _
  omega
theorem div_of {a b q r : Int} (hb : 0 < b) (h : r + b * q = a) (h0 : 0 ≤ r) (h1 : r < b) : a / b = q := ((Int.ediv_emod_unique hb).2 ⟨h, h0, h1⟩).1

theorem Down_eq {a b : Int} (hb : 0 < b) (ha : a.natAbs ≤ 4611686018427387904) : F_numbers_Down (a, b) = some (a / b) := by
  obtain ⟨h1, h2, h3, h4, h5⟩ := tdiv_tmod (a := a) hb
  have h6 := tdiv_le (a := a) hb
  simp only [F_numbers_Down, nz_of (show b ≠ 0 by omega), Option.bind_some]
  rw [wr_in (n := a.tdiv b) (by omega) (by omega)]
  by_cases c : a.tmod b < 0
  · rw [wr_in (n := a.tdiv b - 1) (by omega) (by omega), div_of (q := a.tdiv b - 1) (r := a.tmod b + b) hb (by rw [Int.mul_sub]; omega) (by omega) (by omega)]
    simp [c]
  · rw [div_of (q := a.tdiv b) (r := a.tmod b) hb (by omega) (by omega) (by omega)]
    simp [c]
theorem div_bound {a b : Int} (hb : 0 < b) : -a.natAbs ≤ a / b ∧ a / b ≤ a.natAbs := by
  have := Int.natAbs_ediv_le_natAbs a b
  omega
theorem Up_eq {a b : Int} (hb : 0 < b) (ha : a.natAbs ≤ 4611686018427387904) : F_numbers_Up (a, b) = some (-((-a) / b)) := by
  have h := div_bound (a := -a) hb
  simp only [F_numbers_Up]
  rw [wr_in (n := 0 - a) (by omega) (by omega), show 0 - a = -a by omega, Down_eq hb (by omega)]
  simp only [Option.bind_some]
  rw [wr_in (by omega) (by omega)]
  simp
theorem Floor_eq {a b : Int} (hb : 0 < b) (ha : a.natAbs ≤ 4611686018427387904) : F_thalwegref01_Floor (a, b) = some (a / b) := by
  obtain ⟨h1, h2, h3, h4, h5⟩ := tdiv_tmod (a := a) hb
  have h6 := tdiv_le (a := a) hb
  have hq : a.tdiv b * b = a - a.tmod b := by rw [Int.mul_comm]; omega
  have hr : (a.tmod b).natAbs ≤ a.natAbs := by rw [Int.natAbs_tmod]; exact Nat.mod_le _ _
  simp only [F_thalwegref01_Floor, nz_of (show b ≠ 0 by omega), Option.bind_some]
  rw [wr_in (n := a.tdiv b) (by omega) (by omega), hq, wr_in (n := a - a.tmod b) (by omega) (by omega)]
  by_cases c : a.tmod b < 0
  · rw [wr_in (n := a.tdiv b - 1) (by omega) (by omega), div_of (q := a.tdiv b - 1) (r := a.tmod b + b) hb (by rw [Int.mul_sub]; omega) (by omega) (by omega)]
    simp [show a - a.tmod b > a by omega]
  · rw [div_of (q := a.tdiv b) (r := a.tmod b) hb (by omega) (by omega) (by omega)]
    simp [show ¬ (a - a.tmod b > a) by omega]
theorem Ceil_eq {a b : Int} (hb : 0 < b) (ha : a.natAbs ≤ 4611686018427387904) : F_thalwegref01_Ceil (a, b) = some (-((-a) / b)) := by
  obtain ⟨h1, h2, h3, h4, h5⟩ := tdiv_tmod (a := a) hb
  have h6 := tdiv_le (a := a) hb
  have hq : a.tdiv b * b = a - a.tmod b := by rw [Int.mul_comm]; omega
  have hr : (a.tmod b).natAbs ≤ a.natAbs := by rw [Int.natAbs_tmod]; exact Nat.mod_le _ _
  simp only [F_thalwegref01_Ceil, nz_of (show b ≠ 0 by omega), Option.bind_some]
  rw [wr_in (n := a.tdiv b) (by omega) (by omega), hq, wr_in (n := a - a.tmod b) (by omega) (by omega)]
  by_cases c : 0 < a.tmod b
  · rw [wr_in (n := a.tdiv b + 1) (by omega) (by omega), div_of (a := -a) (q := -(a.tdiv b + 1)) (r := b - a.tmod b) hb (by rw [Int.mul_neg, Int.mul_add]; omega) (by omega) (by omega)]
    simp [show a - a.tmod b < a by omega]
  · rw [div_of (a := -a) (q := -(a.tdiv b)) (r := -a.tmod b) hb (by rw [Int.mul_neg]; omega) (by omega) (by omega)]
    simp [show ¬ (a - a.tmod b < a) by omega]

/-- The first row whose flow is not less. -/
def firstAt (l : List TRateRow) (n : Int) : Nat := l.findIdx fun x => decide (n ≤ x.Flow)
theorem first_lt {l : List TRateRow} {n : Int} {k : Nat} (h : k < firstAt l n) (hk : k < l.length) : l[k].Flow < n := by
  have := List.not_of_lt_findIdx h
  simp at this
  exact this
theorem first_at {l : List TRateRow} {n : Int} (h : firstAt l n < l.length) : n ≤ l[firstAt l n].Flow := by
  have := List.findIdx_getElem (p := fun x : TRateRow => decide (n ≤ x.Flow)) (xs := l) (w := h)
  exact of_decide_eq_true this
theorem first_le (l : List TRateRow) (n : Int) : firstAt l n ≤ l.length := List.findIdx_le_length
theorem index_eq {l : List TRateRow} {n : Int} {g : FuncId} {caps : List V} (hl : l.length ≤ 4611686018427387904) : F_slices_IndexFunc_L_RateRow_RateRow (l, (fun q => F_river_curveAt_1 (q, n)), g, caps) = some (if firstAt l n < l.length then (firstAt l n : Int) else -1) := by
  unfold F_slices_IndexFunc_L_RateRow_RateRow
  simp only
  have hle := first_le l n
  by_cases c : firstAt l n < l.length
  · rw [show (0 : Int) = ((0 : Nat) : Int) from rfl, loop_run (fun k : Nat => (k : Int)) (firstAt l n) (e := .inr (firstAt l n : Int))]
    · simp [c]
    · intro k hk
      have hkl : k < l.length := by omega
      have := first_lt hk hkl
      simp only [L_slices_IndexFunc_L_RateRow_RateRow_1, Int.ofNat_lt, hkl, decide_true, cond_true, idx?_nat hkl, Option.bind_some, F_river_curveAt_1, show decide (n ≤ l[k].Flow) = false by simp; omega, cond_false]
      rw [wr_nat (by omega)]
    · have := first_at c
      simp only [L_slices_IndexFunc_L_RateRow_RateRow_1, Int.ofNat_lt, c, decide_true, cond_true, idx?_nat c, Option.bind_some, F_river_curveAt_1, this]
  · rw [show (0 : Int) = ((0 : Nat) : Int) from rfl, loop_run (fun k : Nat => (k : Int)) l.length (e := .inl ())]
    · simp [c]
    · intro k hkl
      have := first_lt (n := n) (show k < firstAt l n by omega) hkl
      simp only [L_slices_IndexFunc_L_RateRow_RateRow_1, Int.ofNat_lt, hkl, decide_true, cond_true, idx?_nat hkl, Option.bind_some, F_river_curveAt_1, show decide (n ≤ l[k].Flow) = false by simp; omega, cond_false]
      rw [wr_nat (by omega)]
    · simp [L_slices_IndexFunc_L_RateRow_RateRow_1]

theorem flows_up {l : List TRateRow} (h : (pairs l).all pairOk = true) : ∀ {a b : Nat} (hab : a < b) (hb : b < l.length), l[a].Flow < l[b].Flow := by
  have one : ∀ a (ha : a + 1 < l.length), l[a].Flow < l[a + 1].Flow := by
    intro a ha
    have hp : a < (pairs l).length := by rw [pairs_length]; omega
    have := List.all_eq_true.1 h _ (List.getElem_mem hp)
    rw [pairs_get] at this
    simp only [pairOk, Bool.and_eq_true, decide_eq_true_eq] at this
    exact this.1
  intro a b hab hb
  induction b with
  | zero => omega
  | succ b ih =>
    have h1 := one b hb
    by_cases c : a = b
    · subst c; exact h1
    · have := ih (by omega) (by omega)
      omega
theorem levels_up {l : List TRateRow} (h : (pairs l).all pairOk = true) {a : Nat} (ha : a + 1 < l.length) : l[a].Level ≤ l[a + 1].Level := by
  have hp : a < (pairs l).length := by rw [pairs_length]; omega
  have := List.all_eq_true.1 h _ (List.getElem_mem hp)
  rw [pairs_get] at this
  simp only [pairOk, Bool.and_eq_true, decide_eq_true_eq] at this
  exact this.2
theorem row_in {l : List TRateRow} (h : l.all rowOk = true) {a : Nat} (ha : a < l.length) : 0 ≤ l[a].Flow ∧ l[a].Flow ≤ 10000000000 ∧ 0 ≤ l[a].Level ∧ l[a].Level ≤ 10000 := by
  have := List.all_eq_true.1 h _ (List.getElem_mem ha)
  simp only [rowOk, Bool.and_eq_true, inB_iff] at this
  omega

/-- The level at a flow, rounded down, or up. -/
def divB (up : Bool) (a b : Int) : Int := if up then -((-a) / b) else a / b
def levelOf (l : List TRateRow) (n : Int) (up : Bool) : Int :=
  let i := firstAt l n
  match l[i]?, l[i - 1]? with
  | some y, some x => if i = 0 then y.Level else x.Level + divB up ((y.Level - x.Level) * (n - x.Flow)) (y.Flow - x.Flow)
  | none, some x => x.Level
  | _, none => 0

theorem mul_small {a b : Int} (ha : 0 ≤ a) (ha' : a ≤ 10000) (hb : 0 ≤ b) (hb' : b ≤ 10000000000) : 0 ≤ a * b ∧ a * b ≤ 100000000000000 := by
  refine ⟨Int.mul_nonneg ha hb, ?_⟩
  have h1 : a * b ≤ 10000 * b := Int.mul_le_mul_of_nonneg_right ha' hb
  omega
theorem div_small {a b : Int} (hb : 0 < b) (h0 : 0 ≤ a) (h1 : a ≤ 100000000000000) (up : Bool) : -100000000000000 ≤ divB up a b ∧ divB up a b ≤ 100000000000000 := by
  unfold divB
  have h2 := div_bound (a := a) hb
  have h3 := div_bound (a := -a) hb
  split <;> omega
theorem div_exact {a b : Int} (hb : 0 < b) (up : Bool) : divB up (a * b) b = a := by
  unfold divB
  split
  · rw [← Int.neg_mul, Int.mul_ediv_cancel _ (by omega)]; omega
  · exact Int.mul_ediv_cancel _ (by omega)

theorem curveAt_eq {l : List TRateRow} {n : Int} {p : Int × Int → Option Int} {g : FuncId} {caps : List V} {up : Bool} (hc : curveOk l = true) (hp : ∀ a b : Int, 0 < b → a.natAbs ≤ 4611686018427387904 → p (a, b) = some (divB up a b)) : F_river_curveAt (l, n, p, g, caps) = some (levelOf l n up) := by
  simp only [curveOk, Bool.and_eq_true, inB_iff] at hc
  obtain ⟨hl, hps, hrs⟩ := hc
  have hle := first_le l n
  simp only [F_river_curveAt]
  rw [index_eq (by omega)]
  simp only [Option.bind_some]
  by_cases c : firstAt l n < l.length
  · rw [if_pos c]
    simp only [show decide ((firstAt l n : Int) < 0) = false by simp, cond_false]
    by_cases c0 : firstAt l n = 0
    · rw [c0]
      simp only [show (((0 : Nat) : Int) == 0) = true by decide, cond_true]
      rw [show (0 : Int) = ((0 : Nat) : Int) from rfl, idx?_nat (show 0 < l.length by omega)]
      simp [levelOf, c0, show 0 < l.length by omega]
    · simp only [show ((firstAt l n : Int) == 0) = false by simp; omega, cond_false]
      have ci : firstAt l n - 1 < l.length := by omega
      rw [wr_in (n := (firstAt l n : Int) - 1) (by omega) (by omega), show ((firstAt l n : Int) - 1) = ((firstAt l n - 1 : Nat) : Int) by omega, idx?_nat ci, idx?_nat c]
      simp only [Option.bind_some, levelOf, List.getElem?_eq_getElem c, List.getElem?_eq_getElem ci, c0, if_false]
      have r1 := row_in hrs ci
      have r2 := row_in hrs c
      have f1 := first_lt (n := n) (show firstAt l n - 1 < firstAt l n by omega) ci
      have f2 := first_at c
      have lv := levels_up hps (a := firstAt l n - 1) (by omega)
      simp only [show firstAt l n - 1 + 1 = firstAt l n by omega] at lv
      rw [wr_in (n := l[firstAt l n].Level - l[firstAt l n - 1].Level) (by omega) (by omega), wr_in (n := n - l[firstAt l n - 1].Flow) (by omega) (by omega), wr_in (n := l[firstAt l n].Flow - l[firstAt l n - 1].Flow) (by omega) (by omega)]
      have hm := mul_small (a := l[firstAt l n].Level - l[firstAt l n - 1].Level) (b := n - l[firstAt l n - 1].Flow) (by omega) (by omega) (by omega) (by omega)
      rw [wr_in (by omega) (by omega), hp _ _ (by omega) (by omega)]
      have hd := div_small (b := l[firstAt l n].Flow - l[firstAt l n - 1].Flow) (by omega) hm.1 hm.2 up
      simp only [Option.bind_some]
      rw [wr_in (by omega) (by omega)]
  · rw [if_neg c]
    have ce : firstAt l n = l.length := by omega
    have ci : l.length - 1 < l.length := by omega
    simp only [show decide ((-1 : Int) < 0) = true by decide, cond_true]
    rw [wr_in (by omega) (by omega), show ((l.length : Int) - 1) = ((l.length - 1 : Nat) : Int) by omega, idx?_nat ci]
    simp [levelOf, ce, ci]

theorem refCurve_eq {x : TReach} {n : Int} {up : Bool} (hc : curveOk x.Curve = true) : F_thalwegref01_Curve (x, n, up) = some (levelOf x.Curve n up) := by
  simp only [curveOk, Bool.and_eq_true, inB_iff] at hc
  obtain ⟨hl, hps, hrs⟩ := hc
  have hle := first_le x.Curve n
  have c1 : x.Curve.length - 1 < x.Curve.length := by omega
  have c0 : 0 < x.Curve.length := by omega
  simp only [F_thalwegref01_Curve]
  rw [wr_in (n := (x.Curve.length : Int) - 1) (by omega) (by omega), show ((x.Curve.length : Int) - 1) = ((x.Curve.length - 1 : Nat) : Int) by omega, idx?_nat c1]
  rw [show (0 : Int) = ((0 : Nat) : Int) from rfl, idx?_nat c0]
  simp only [Option.bind_some]
  by_cases h0 : n ≤ x.Curve[0].Flow
  · have hi : firstAt x.Curve n = 0 := by
      rcases Nat.eq_zero_or_pos (firstAt x.Curve n) with e | e
      · exact e
      · have := first_lt e c0; omega
    simp [h0, levelOf, hi, c0]
  · simp only [h0, decide_false, cond_false]
    have hi : 0 < firstAt x.Curve n := by
      rcases Nat.eq_zero_or_pos (firstAt x.Curve n) with e | e
      · have := first_at (l := x.Curve) (n := n) (by omega); simp only [e] at this; omega
      · exact e
    by_cases hL : n ≥ x.Curve[x.Curve.length - 1].Flow
    · simp only [hL, decide_true, cond_true, Option.some.injEq]
      by_cases c : firstAt x.Curve n < x.Curve.length
      · have f2 := first_at c
        have he : firstAt x.Curve n = x.Curve.length - 1 := by
          rcases Nat.lt_or_ge (firstAt x.Curve n) (x.Curve.length - 1) with e | e
          · have := flows_up hps e c1; omega
          · omega
        have ci : firstAt x.Curve n - 1 < x.Curve.length := by omega
        have f1 := first_lt (n := n) (show firstAt x.Curve n - 1 < firstAt x.Curve n by omega) ci
        simp only [levelOf, List.getElem?_eq_getElem c, List.getElem?_eq_getElem ci, show ¬ firstAt x.Curve n = 0 by omega, if_false]
        have hn : n = x.Curve[firstAt x.Curve n].Flow := by simp only [he] at f2 ⊢; omega
        have f3 : x.Curve[firstAt x.Curve n - 1].Flow < x.Curve[firstAt x.Curve n].Flow := by omega
        have hx := div_exact (a := x.Curve[firstAt x.Curve n].Level - x.Curve[firstAt x.Curve n - 1].Level) (b := x.Curve[firstAt x.Curve n].Flow - x.Curve[firstAt x.Curve n - 1].Flow) (by omega) up
        rw [show n - x.Curve[firstAt x.Curve n - 1].Flow = x.Curve[firstAt x.Curve n].Flow - x.Curve[firstAt x.Curve n - 1].Flow by omega, hx]
        simp only [he]
        omega
      · have ce : firstAt x.Curve n = x.Curve.length := by omega
        simp [levelOf, ce, c1]
    · simp only [hL, decide_false, cond_false]
      have c : firstAt x.Curve n < x.Curve.length := by
        rcases Nat.lt_or_ge (firstAt x.Curve n) x.Curve.length with e | e
        · exact e
        · have := first_lt (n := n) (show x.Curve.length - 1 < firstAt x.Curve n by omega) c1; omega
      have ci : firstAt x.Curve n - 1 < x.Curve.length := by omega
      rw [loop_run (fun k : Nat => (k : Int)) (firstAt x.Curve n - 1) (e := ((firstAt x.Curve n - 1 : Nat) : Int))]
      · simp only [Option.bind_some, idx?_nat ci]
        rw [wr_nat (by omega), show firstAt x.Curve n - 1 + 1 = firstAt x.Curve n by omega, idx?_nat c]
        simp only [Option.bind_some, levelOf, List.getElem?_eq_getElem c, List.getElem?_eq_getElem ci, show ¬ firstAt x.Curve n = 0 by omega, if_false]
        have r1 := row_in hrs ci
        have r2 := row_in hrs c
        have f1 := first_lt (n := n) (show firstAt x.Curve n - 1 < firstAt x.Curve n by omega) ci
        have f2 := first_at c
        have lv := levels_up hps (a := firstAt x.Curve n - 1) (by omega)
        simp only [show firstAt x.Curve n - 1 + 1 = firstAt x.Curve n by omega] at lv
        rw [wr_in (n := x.Curve[firstAt x.Curve n].Level - x.Curve[firstAt x.Curve n - 1].Level) (by omega) (by omega), wr_in (n := n - x.Curve[firstAt x.Curve n - 1].Flow) (by omega) (by omega), wr_in (n := x.Curve[firstAt x.Curve n].Flow - x.Curve[firstAt x.Curve n - 1].Flow) (by omega) (by omega)]
        have hm := mul_small (a := x.Curve[firstAt x.Curve n].Level - x.Curve[firstAt x.Curve n - 1].Level) (b := n - x.Curve[firstAt x.Curve n - 1].Flow) (by omega) (by omega) (by omega) (by omega)
        rw [Int.mul_comm (n - x.Curve[firstAt x.Curve n - 1].Flow), wr_in (n := (x.Curve[firstAt x.Curve n].Level - x.Curve[firstAt x.Curve n - 1].Level) * (n - x.Curve[firstAt x.Curve n - 1].Flow)) (by omega) (by omega), Ceil_eq (by omega) (by omega), Floor_eq (by omega) (by omega)]
        have hd := div_small (b := x.Curve[firstAt x.Curve n].Flow - x.Curve[firstAt x.Curve n - 1].Flow) (by omega) hm.1 hm.2 up
        cases up with
        | true => simp only [divB, if_true] at hd ⊢; simp only [cond_true, Option.bind_some]; rw [wr_in (by omega) (by omega)]
        | false => simp only [divB, Bool.false_eq_true, if_false] at hd ⊢; simp only [cond_false, Option.bind_some]; rw [wr_in (by omega) (by omega)]
      · intro k hk
        have hk1 : k + 1 < x.Curve.length := by omega
        have := first_lt (n := n) (show k + 1 < firstAt x.Curve n by omega) hk1
        simp only [L_thalwegref01_Curve_1]
        rw [wr_nat (by omega), idx?_nat hk1]
        simp only [Option.bind_some, this, decide_true, cond_true]
      · have := first_at c
        simp only [L_thalwegref01_Curve_1]
        rw [wr_nat (by omega), show firstAt x.Curve n - 1 + 1 = firstAt x.Curve n by omega, idx?_nat c]
        simp only [Option.bind_some, show decide (x.Curve[firstAt x.Curve n].Flow < n) = false by simp; omega, cond_false]
set_option maxHeartbeats 1000000

def levB (x : TReach) (b : TBounds) : TBounds := ⟨minmax true (levelOf x.Curve b.Low false) x.Weir, minmax true (levelOf x.Curve b.High true) x.Weir⟩
theorem minmax_comm (a b : Int) : minmax true a b = minmax true b a := by
  simp only [minmax, if_true]
  split <;> split <;> omega
theorem levelAt_eq {x : TReach} {b : TBounds} (h : curveOk x.Curve = true) : F_river_levelAt (x, b) = some (levB x b) := by
  simp only [F_river_levelAt]
  rw [curveAt_eq (up := false) h (fun a b hb ha => by simpa [divB] using Down_eq hb ha), curveAt_eq (up := true) h (fun a b hb ha => by simpa [divB] using Up_eq hb ha)]
  rfl
theorem refLevel_eq {x : TReach} {b : TBounds} (h : curveOk x.Curve = true) : F_thalwegref01_Level (x, b) = some (levB x b) := by
  simp only [F_thalwegref01_Level, refCurve_eq h, Option.bind_some, levB]
  rw [minmax_comm x.Weir, minmax_comm x.Weir]
theorem reachOk_curve {x : TReach} (h : reachOk x = true) : curveOk x.Curve = true := by
  simp only [reachOk, Bool.and_eq_true] at h
  exact h.2.2.2.2.2
theorem Level_eq (x : TReach) (b : TBounds) : F_river_Level (x, b) = some (if reachOk x then (if vB b 0 210000000000 then (levB x b, 0) else (⟨0, 0⟩, 3)) else (⟨0, 0⟩, 2)) := by
  simp only [F_river_Level, validReach_eq, Option.bind_some, valid_eq]
  cases h : reachOk x with
  | false => rfl
  | true =>
    simp only [Bool.not_true, cond_false, if_true]
    cases vB b 0 210000000000 with
    | false => rfl
    | true => simp only [Bool.not_true, cond_false, if_true, levelAt_eq (reachOk_curve h), Option.bind_some]

set_option maxHeartbeats 1000000

theorem every_Bounds {l : List TBounds} {p : TBounds → Option Bool} {q : TBounds → Bool} {g : FuncId} {caps : List V} (hp : ∀ x ∈ l, p x = some (q x)) (hl : l.length ≤ 4611686018427387904) : F_numbers_Every_Bounds (l, p, g, caps) = some (l.all q) := by
  unfold F_numbers_Every_Bounds
  simp only
  rw [show (0 : Int) = ((0 : Nat) : Int) from rfl, loop_list l (fun k => (k : Int)) q (e := .inl ()) (f := .inr false)]
  · cases l.all q <;> rfl
  · intro k hk
    simp only [L_numbers_Every_Bounds_1, Int.ofNat_lt, hk, decide_true, cond_true, idx?_nat hk, Option.bind_some, hp _ (List.getElem_mem hk), wr_nat (show k < 9223372036854775807 by omega)]
    cases q l[k] <;> rfl
  · simp [L_numbers_Every_Bounds_1]
theorem every_LBounds {l : List (List TBounds)} {p : List TBounds → Option Bool} {q : List TBounds → Bool} {g : FuncId} {caps : List V} (hp : ∀ x ∈ l, p x = some (q x)) (hl : l.length ≤ 4611686018427387904) : F_numbers_Every_L_Bounds (l, p, g, caps) = some (l.all q) := by
  unfold F_numbers_Every_L_Bounds
  simp only
  rw [show (0 : Int) = ((0 : Nat) : Int) from rfl, loop_list l (fun k => (k : Int)) q (e := .inl ()) (f := .inr false)]
  · cases l.all q <;> rfl
  · intro k hk
    simp only [L_numbers_Every_L_Bounds_1, Int.ofNat_lt, hk, decide_true, cond_true, idx?_nat hk, Option.bind_some, hp _ (List.getElem_mem hk), wr_nat (show k < 9223372036854775807 by omega)]
    cases q l[k] <;> rfl
  · simp [L_numbers_Every_L_Bounds_1]

def sideOk (l : List TBounds) : Bool := l.all fun b => vB b 0 10000000000
/-- The error of a forecast for a valid river. -/
def fcErr (r : TRiver) (sides : List (List TBounds)) : Int :=
  if sides.length ≠ r.Reaches.length then 4 else
  match sides with
  | [] => 4
  | s :: _ => if s.length = 0 then 4 else if !(sides.all fun x => decide (x.length = s.length)) then 4 else if s.length > 400 then 5 else if !(sides.all sideOk) then 2 else 0
def startErr (r : TRiver) (sides : List (List TBounds)) : Int := if riverOk r then fcErr r sides else 2

theorem len_beq {a b : Nat} : (((a : Int) == (b : Int)) : Bool) = decide (a = b) := by
  rw [Bool.eq_iff_iff]; simp; omega
theorem len_bne {a b : Nat} : (((a : Int) != (b : Int)) : Bool) = !decide (a = b) := by
  rw [bne, len_beq]
theorem checkForecast_eq {r : TRiver} {sides : List (List TBounds)} (hr : riverOk r = true) (hs : ∀ x ∈ sides, x.length ≤ 1000000) : F_river_checkForecast (r, sides) = some (fcErr r sides) := by
  have hl : 1 ≤ r.Reaches.length ∧ r.Reaches.length ≤ 20 := by
    simp only [riverOk, Bool.and_eq_true, inB_iff] at hr
    omega
  simp only [F_river_checkForecast, len_bne]
  by_cases h1 : sides.length = r.Reaches.length
  · simp only [h1, decide_true, Bool.not_true, cond_false, fcErr]
    cases sides with
    | nil => simp only [List.length_nil] at h1; omega
    | cons s m =>
      simp only [List.length_cons] at h1
      rw [show (0 : Int) = ((0 : Nat) : Int) from rfl, idx?_nat (show 0 < (s :: m).length by simp)]
      simp only [Option.bind_some, List.getElem_cons_zero, len_beq]
      by_cases h2 : s.length = 0
      · simp [h2, h1]
      · simp only [h2, decide_false, cond_false]
        rw [every_LBounds (q := fun x => decide (x.length = s.length)) (fun x _ => by simp only [F_river_checkForecast_1, len_beq]) (by simp; omega)]
        simp only [Option.bind_some]
        cases h3 : (s :: m).all fun x => decide (x.length = s.length) with
        | false => simp [h1, h2, h3]
        | true =>
          simp only [Bool.not_true, cond_false]
          by_cases h4 : s.length > 400
          · simp [h1, h2, h3, h4, show ((s.length : Int) > 400) by omega]
          · simp only [show decide ((s.length : Int) > 400) = false by simp; omega, cond_false]
            rw [every_LBounds (q := sideOk) (fun x hx => by
              simp only [F_river_checkForecast_3]
              rw [every_Bounds (q := fun b => vB b 0 10000000000) (fun b _ => by simp only [F_river_checkForecast_2, valid_eq, Option.bind_some]) (by have := hs x hx; omega)]
              rfl) (by simp; omega)]
            simp only [Option.bind_some]
            cases h5 : (s :: m).all sideOk <;> simp [h1, h2, h3, h4, h5]
  · simp [h1, fcErr]

theorem refStart_eq {r : TRiver} {sides : List (List TBounds)} (hs : ∀ x ∈ sides, x.length ≤ 1000000) (hn : sides.length ≤ 1000000) : F_thalwegref01_Start (r, sides) = some (startErr r sides) := by
  simp only [F_thalwegref01_Start, refRiver_eq, Option.bind_some, startErr]
  cases hr : riverOk r with
  | false => rfl
  | true =>
    have hl : 1 ≤ r.Reaches.length ∧ r.Reaches.length ≤ 20 := by
      simp only [riverOk, Bool.and_eq_true, inB_iff] at hr
      omega
    simp only [Bool.not_true, cond_false, len_bne, if_true]
    by_cases h1 : sides.length = r.Reaches.length
    · simp only [h1, decide_true, Bool.not_true, cond_false, fcErr]
      cases sides with
      | nil => simp only [List.length_nil] at h1; omega
      | cons s m =>
        simp only [List.length_cons] at h1
        rw [show (0 : Int) = ((0 : Nat) : Int) from rfl, idx?_nat (show 0 < (s :: m).length by simp)]
        simp only [Option.bind_some, List.getElem_cons_zero, len_beq]
        by_cases h2 : s.length = 0
        · simp [h2, h1]
        · simp only [h2, decide_false, cond_false]
          rw [loop_list (s :: m) (fun k => (k : Int)) (fun x => decide (x.length = s.length)) (e := .inl ()) (f := .inr 4)]
          · cases h3 : (s :: m).all fun x => decide (x.length = s.length) with
            | false => simp [h1, h2, h3]
            | true =>
              simp only [if_true, Option.bind_some]
              by_cases h4 : s.length > 400
              · simp [h1, h2, h3, h4, show ((s.length : Int) > 400) by omega]
              · simp only [show decide ((s.length : Int) > 400) = false by simp; omega, cond_false]
                rw [loop_list (s :: m) (fun k => (k : Int)) sideOk (e := .inl ()) (f := .inr 2)]
                · cases h5 : (s :: m).all sideOk <;> simp [h1, h2, h3, h4, h5]
                · intro k hk
                  simp only [L_thalwegref01_Start_3, Int.ofNat_lt, hk, decide_true, cond_true]
                  have hkl := hs _ (List.getElem_mem hk)
                  rw [show (0 : Int) = ((0 : Nat) : Int) from rfl, loop_list (s :: m)[k] (fun j => (j : Int)) (fun b => vB b 0 10000000000) (e := .inl ()) (f := .inr 2)]
                  · rw [wr_nat (by omega)]
                    have hq : sideOk (s :: m)[k] = (s :: m)[k].all fun b => vB b 0 10000000000 := rfl
                    rw [← hq]
                    cases h : sideOk (s :: m)[k] with
                    | true => rfl
                    | false => rfl
                  · intro j hj
                    simp only [L_thalwegref01_Start_2, idx?_nat hk, Option.bind_some, Int.ofNat_lt, hj, decide_true, cond_true, idx?_nat hj, rvalid_eq]
                    rw [wr_nat (by omega)]
                    cases vB (s :: m)[k][j] 0 10000000000 <;> rfl
                  · simp [L_thalwegref01_Start_2, idx?_nat hk]
                · simp [L_thalwegref01_Start_3]
          · intro k hk
            simp only [L_thalwegref01_Start_1, Int.ofNat_lt, hk, decide_true, cond_true, idx?_nat hk, Option.bind_some]
            rw [show (0 : Int) = ((0 : Nat) : Int) from rfl, idx?_nat (show 0 < (s :: m).length by simp), wr_nat (by omega)]
            simp only [Option.bind_some, List.getElem_cons_zero, len_bne]
            cases decide ((s :: m)[k].length = s.length) <;> rfl
          · simp [L_thalwegref01_Start_1]
    · simp [h1, fcErr]

theorem forecast_eq {l : List (List TBounds)} (hn : l.length ≤ 1000000) (hs : ∀ x ∈ l, x.length ≤ 1000000) : F_thalweglaw01_forecast l = some l := by
  unfold F_thalweglaw01_forecast
  simp only
  rw [show ((0 : Int), ([] : List (List TBounds))) = (fun k : Nat => ((k : Int), l.take k)) 0 from rfl, loop_run (fun k : Nat => ((k : Int), l.take k)) l.length (e := l)]
  · rfl
  · intro k hk
    simp only [L_thalweglaw01_forecast_1, Int.ofNat_lt, hk, decide_true, cond_true, idx?_nat hk, Option.bind_some]
    have := hs _ (List.getElem_mem hk)
    rw [app_nil (by omega) (by decide)]
    simp only [Option.bind_some]
    rw [app_of (by simp [Nat.min_eq_left (Nat.le_of_lt hk)]; omega) (by decide), wr_nat (by omega)]
    simp only [Option.bind_some, List.take_succ_eq_append_getElem hk]
  · simp [L_thalweglaw01_forecast_1]
set_option maxHeartbeats 1000000

def addB (a b : TBounds) : TBounds := ⟨a.Low + b.Low, a.High + b.High⟩
def sumB : List TBounds → TBounds
  | [] => ⟨0, 0⟩
  | a :: l => addB a (sumB l)
/-- Bounds from 0 to a number. -/
def upTo (n : Int) (b : TBounds) : Prop := 0 ≤ b.Low ∧ b.Low ≤ b.High ∧ b.High ≤ n
theorem sum_loop (l : List TBounds) {n : Int} (hn : 0 ≤ n) (hn' : n ≤ 1000000000000) (hl : l.length ≤ 100000) : ∀ (m : List TBounds) (k : Nat) (a b : Int), l.drop k = m → (∀ x ∈ m, upTo n x) → 0 ≤ a → a ≤ n * k → 0 ≤ b → b ≤ n * k →
    loopC (L_numbers_Sum_1 l).step ((k : Int), a, b) = some (a + (sumB m).Low, b + (sumB m).High)
  | [], k, a, b, h, _, _, _, _, _ => by
    have := drop_nil h
    rw [loopC_eq]
    simp [L_numbers_Sum_1, show ¬ k < l.length by omega, sumB]
  | x :: m, k, a, b, h, hx, ha, ha', hb, hb' => by
    obtain ⟨hk, hg, hd⟩ := drop_cons h
    obtain ⟨x1, x2, x3⟩ := hx x (by simp)
    have hnk : n * (k : Int) ≤ 1000000000000 * 100000 := by
      have h1 : n * (k : Int) ≤ 1000000000000 * (k : Int) := Int.mul_le_mul_of_nonneg_right hn' (by omega)
      omega
    have e : n * ((k + 1 : Nat) : Int) = n * (k : Int) + n := by rw [Int.natCast_add, Int.mul_add]; simp
    have hs : (L_numbers_Sum_1 l).step ((k : Int), a, b) = some (.inl (((k + 1 : Nat) : Int), a + x.Low, b + x.High)) := by
      simp only [L_numbers_Sum_1, Int.ofNat_lt, hk, decide_true, cond_true, idx?_nat hk, Option.bind_some, hg]
      rw [wr_nat (by omega), wr_in (n := a + x.Low) (by omega) (by omega), wr_in (n := b + x.High) (by omega) (by omega)]
    rw [loopC_eq, hs]
    simp only
    rw [sum_loop l hn hn' hl m (k + 1) (a + x.Low) (b + x.High) hd (fun y hy => hx y (by simp [hy])) (by omega) (by omega) (by omega) (by omega)]
    simp only [sumB, addB]
    rw [Int.add_assoc, Int.add_assoc]
theorem Sum_eq {l : List TBounds} {n : Int} (hn : 0 ≤ n) (hn' : n ≤ 1000000000000) (hl : l.length ≤ 100000) (hx : ∀ x ∈ l, upTo n x) : F_numbers_Sum l = some (sumB l) := by
  unfold F_numbers_Sum
  simp only
  rw [show ((0 : Int), (0 : Int), (0 : Int)) = (((0 : Nat) : Int), (0 : Int), (0 : Int)) from rfl, sum_loop l hn hn' hl l 0 0 0 rfl hx (by omega) (by simp) (by omega) (by simp)]
  simp

def noReach : TReach := ⟨0, 0, ⟨0, 0⟩, [], 0, ⟨0, 0⟩, 0⟩
def reachAt (r : TRiver) (i : Nat) : TReach := r.Reaches[i]?.getD noReach
def getB (l : List (List TBounds)) (i k : Nat) : TBounds := (l[i]?.getD [])[k]?.getD ⟨0, 0⟩
/-- The flow of a reach in an hour. -/
def flowAt (r : TRiver) (sides : List (List TBounds)) : Nat → Int → TBounds
  | 0, h => if h < 0 then (reachAt r 0).Base else getB sides 0 h.toNat
  | i + 1, h => if h < 0 then (reachAt r (i + 1)).Base else addB (getB sides (i + 1) h.toNat) (flowAt r sides i (h - (reachAt r i).Delay))

/-- A valid river and a forecast for it. -/
structure FcOk (r : TRiver) (sides : List (List TBounds)) (H : Nat) : Prop where
  river : riverOk r = true
  len : sides.length = r.Reaches.length
  pos : 1 ≤ H
  most : H ≤ 400
  hours : ∀ s ∈ sides, s.length = H
  valid : ∀ s ∈ sides, ∀ b ∈ s, upTo 10000000000 b
theorem fcOk_of {r : TRiver} {sides : List (List TBounds)} (h : startErr r sides = 0) : ∃ H, FcOk r sides H := by
  unfold startErr at h
  split at h
  · next hr =>
    unfold fcErr at h
    split at h
    · cases h
    · next hl =>
      split at h
      · cases h
      · next s m =>
        split at h
        · cases h
        · next h0 =>
          split at h
          · cases h
          · next h1 =>
            split at h
            · cases h
            · next h2 =>
              split at h
              · cases h
              · next h3 =>
                simp only [Bool.not_eq_true', Bool.not_eq_false, List.all_eq_true, decide_eq_true_eq] at h1 h3
                refine ⟨s.length, hr, by omega, by omega, by omega, h1, fun x hx b hb => ?_⟩
                have := List.all_eq_true.1 (h3 x hx) b hb
                simp only [vB, inB, Bool.and_eq_true, decide_eq_true_eq] at this
                unfold upTo
                omega
  · cases h
theorem FcOk.bounds {r : TRiver} {sides : List (List TBounds)} {H : Nat} (h : FcOk r sides H) : 1 ≤ r.Reaches.length ∧ r.Reaches.length ≤ 20 ∧ ∀ i, i < r.Reaches.length → reachOk (reachAt r i) = true := by
  have hr := h.river
  simp only [riverOk, Bool.and_eq_true, inB_iff, List.all_eq_true] at hr
  refine ⟨by omega, by omega, fun i hi => ?_⟩
  rw [reachAt, List.getElem?_eq_getElem hi]
  exact hr.2.1 _ (List.getElem_mem hi)
theorem reach_of {x : TReach} (h : reachOk x = true) : 0 ≤ x.Delay ∧ x.Delay ≤ 200 ∧ upTo 10000000000 x.Base := by
  simp only [reachOk, Bool.and_eq_true, inB_iff, vB, decide_eq_true_eq] at h
  unfold upTo
  omega
theorem FcOk.getB_upTo {r : TRiver} {sides : List (List TBounds)} {H : Nat} (h : FcOk r sides H) (i k : Nat) : upTo 10000000000 (getB sides i k) := by
  unfold getB
  cases hi : sides[i]? with
  | none => simp [upTo]
  | some s =>
    cases hk : s[k]? with
    | none => simp [upTo, hk]
    | some b =>
      simp only [Option.getD_some, hk]
      exact h.valid s (List.mem_of_getElem? hi) b (List.mem_of_getElem? hk)
theorem FcOk.flow_upTo {r : TRiver} {sides : List (List TBounds)} {H : Nat} (h : FcOk r sides H) : ∀ (i : Nat) (k : Int), i < r.Reaches.length → upTo (10000000000 * ((i : Int) + 1)) (flowAt r sides i k)
  | 0, k, hi => by
    have h1 := reach_of (h.bounds.2.2 0 hi)
    have h2 := h.getB_upTo 0 k.toNat
    unfold flowAt
    split
    · exact h1.2.2
    · exact h2
  | i + 1, k, hi => by
    have h1 := reach_of (h.bounds.2.2 (i + 1) hi)
    obtain ⟨a1, a2, a3⟩ := h.getB_upTo (i + 1) k.toNat
    obtain ⟨b1, b2, b3⟩ := h.flow_upTo i (k - (reachAt r i).Delay) (by omega)
    obtain ⟨_, _, c1, c2, c3⟩ := h1
    rw [flowAt]
    split
    · unfold upTo; refine ⟨c1, c2, ?_⟩; simp only [Int.natCast_add]; omega
    · simp only [upTo, addB, Int.natCast_add]; omega

theorem getB_eq {sides : List (List TBounds)} {i k : Nat} (hi : i < sides.length) (hk : k < sides[i].length) : getB sides i k = sides[i][k] := by
  simp [getB, hi, hk]
theorem reachAt_eq {r : TRiver} {i : Nat} (hi : i < r.Reaches.length) : r.Reaches[i] = reachAt r i := by simp [reachAt, hi]

/-- The reference's flow. -/
theorem flow_step {r : TRiver} {sides : List (List TBounds)} {H : Nat} (h : FcOk r sides H) {i : Nat} (hi : i < r.Reaches.length) {k : Int} (hk : k < H) (hk' : -1000 ≤ k) (f : TRiver × List (List TBounds) × Int × Int → Option TBounds) :
    B_thalwegref01_Flow f (r, sides, (i : Int), k) = if k < 0 then some (reachAt r i).Base else match i with
      | 0 => some (getB sides 0 k.toNat)
      | i + 1 => (f (r, sides, (i : Int), k - (reachAt r i).Delay)).bind fun y => some ⟨wr ((getB sides (i + 1) k.toNat).Low + y.Low), wr ((getB sides (i + 1) k.toNat).High + y.High)⟩ := by
  simp only [B_thalwegref01_Flow]
  by_cases c : k < 0
  · simp only [c, decide_true, cond_true, if_true, idx?_nat hi, Option.bind_some, reachAt_eq hi]
  · have his : i < sides.length := by rw [h.len]; exact hi
    have hks : k.toNat < sides[i].length := by rw [h.hours _ (List.getElem_mem his)]; omega
    have e : k = (k.toNat : Int) := by omega
    simp only [c, decide_false, cond_false, if_false, idx?_nat his, Option.bind_some]
    have hx : idx? sides[i] ((k.toNat : Nat) : Int) = some (getB sides i k.toNat) := by rw [idx?_nat hks, getB_eq his hks]
    have hb := h.bounds
    have hm := h.most
    rw [(congrArg (idx? sides[i]) e).trans hx]
    simp only [Option.bind_some]
    cases i with
    | zero => simp
    | succ i =>
      have hd := reach_of (h.bounds.2.2 i (by omega))
      simp only [show decide (((i + 1 : Nat) : Int) > 0) = true by simp, cond_true]
      rw [show wr (((i + 1 : Nat) : Int) - 1) = (i : Int) by rw [wr_in] <;> omega, idx?_nat (show i < r.Reaches.length by omega)]
      simp only [Option.bind_some, reachAt_eq (show i < r.Reaches.length by omega)]
      rw [wr_in (n := k - (reachAt r i).Delay) (by omega) (by omega)]
theorem flow_add {r : TRiver} {sides : List (List TBounds)} {H : Nat} (h : FcOk r sides H) {i : Nat} (hi : i + 1 < r.Reaches.length) (k : Nat) (j : Int) :
    (⟨wr ((getB sides (i + 1) k).Low + (flowAt r sides i j).Low), wr ((getB sides (i + 1) k).High + (flowAt r sides i j).High)⟩ : TBounds) = addB (getB sides (i + 1) k) (flowAt r sides i j) := by
  obtain ⟨a1, a2, a3⟩ := h.getB_upTo (i + 1) k
  obtain ⟨b1, b2, b3⟩ := h.flow_upTo i j (by omega)
  have := h.bounds
  rw [wr_in (by omega) (by omega), wr_in (by omega) (by omega)]
  rfl
theorem flow_is {r : TRiver} {sides : List (List TBounds)} {H : Nat} (h : FcOk r sides H) : ∀ (i : Nat) (k : Int), i < r.Reaches.length → k < H → -1000 ≤ k → recN B_thalwegref01_Flow (i + 1) (r, sides, (i : Int), k) = some (flowAt r sides i k) ∧ ∀ m z, recN B_thalwegref01_Flow m (r, sides, (i : Int), k) = some z → z = flowAt r sides i k
  | 0, k, hi, hk, hk' => by
    have hs := flow_step h hi hk hk'
    have e : ∀ f, B_thalwegref01_Flow f (r, sides, ((0 : Nat) : Int), k) = some (flowAt r sides 0 k) := by
      intro f
      rw [hs f, flowAt]
      split <;> rfl
    refine ⟨e _, fun m z hm => ?_⟩
    cases m with
    | zero => cases hm
    | succ m => rw [recN, e] at hm; exact (Option.some.inj hm).symm
  | i + 1, k, hi, hk, hk' => by
    have hs := flow_step h hi hk hk'
    have hd := reach_of (h.bounds.2.2 i (by omega))
    by_cases c : k < 0
    · have e : ∀ f, B_thalwegref01_Flow f (r, sides, ((i + 1 : Nat) : Int), k) = some (flowAt r sides (i + 1) k) := by
        intro f
        rw [hs f, flowAt, if_pos c, if_pos c]
      refine ⟨e _, fun m z hm => ?_⟩
      cases m with
      | zero => cases hm
      | succ m => rw [recN, e] at hm; exact (Option.some.inj hm).symm
    · obtain ⟨h1, h2⟩ := flow_is h i (k - (reachAt r i).Delay) (by omega) (by omega) (by omega)
      have ef : flowAt r sides (i + 1) k = addB (getB sides (i + 1) k.toNat) (flowAt r sides i (k - (reachAt r i).Delay)) := by rw [flowAt, if_neg c]
      refine ⟨?_, fun m z hm => ?_⟩
      · rw [recN, hs, if_neg c, ef]
        simp only
        rw [h1]
        simp only [Option.bind_some, flow_add h hi]
      · cases m with
        | zero => cases hm
        | succ m =>
          rw [recN, hs, if_neg c] at hm
          simp only at hm
          cases hr : recN B_thalwegref01_Flow m (r, sides, (i : Int), k - (reachAt r i).Delay) with
          | none => rw [hr] at hm; cases hm
          | some y =>
            rw [hr] at hm
            have := h2 m y hr
            subst this
            simp only [Option.bind_some, flow_add h hi, Option.some.injEq] at hm
            rw [← hm, ef]
theorem Flow_eq {r : TRiver} {sides : List (List TBounds)} {H : Nat} (h : FcOk r sides H) {i : Nat} {k : Int} (hi : i < r.Reaches.length) (hk : k < H) (hk' : -1000 ≤ k) : F_thalwegref01_Flow (r, sides, (i : Int), k) = some (flowAt r sides i k) :=
  fixC_of (flow_is h i k hi hk hk').1 (flow_is h i k hi hk hk').2
set_option maxHeartbeats 1000000

def rowOf (r : TRiver) (sides : List (List TBounds)) (H i : Nat) : List TBounds := (List.range H).map fun (k : Nat) => flowAt r sides i (k : Int)
def flowsTo (r : TRiver) (sides : List (List TBounds)) (H n : Nat) : List (List TBounds) := (List.range n).map fun i => rowOf r sides H i
theorem rowOf_length (r : TRiver) (sides : List (List TBounds)) (H i : Nat) : (rowOf r sides H i).length = H := by simp [rowOf]
theorem rowOf_get (r : TRiver) (sides : List (List TBounds)) (H i k : Nat) (h : k < (rowOf r sides H i).length) : (rowOf r sides H i)[k] = flowAt r sides i (k : Int) := by simp [rowOf]
theorem flowsTo_length (r : TRiver) (sides : List (List TBounds)) (H n : Nat) : (flowsTo r sides H n).length = n := by simp [flowsTo]
theorem flowsTo_get (r : TRiver) (sides : List (List TBounds)) (H n i : Nat) (h : i < (flowsTo r sides H n).length) : (flowsTo r sides H n)[i] = rowOf r sides H i := by simp [flowsTo]
theorem flowsTo_succ (r : TRiver) (sides : List (List TBounds)) (H n : Nat) : flowsTo r sides H (n + 1) = flowsTo r sides H n ++ [rowOf r sides H n] := by simp [flowsTo, List.range_succ]

theorem fill_set {α : Type} (row : List α) (z : α) (k : Nat) (h : k < row.length) : (row.take k ++ List.replicate (row.length - k) z).set k row[k] = row.take (k + 1) ++ List.replicate (row.length - (k + 1)) z := by
  have e : row.length - k = (row.length - (k + 1)) + 1 := by omega
  rw [e, List.replicate_succ, List.set_append_right _ _ (by simp; omega), List.take_succ_eq_append_getElem h]
  have hm : min k row.length = k := Nat.min_eq_left (Nat.le_of_lt h)
  simp only [List.length_take, hm, Nat.sub_self, List.set_cons_zero, List.append_assoc, List.cons_append, List.nil_append]
theorem set?_of {α : Type} {l : List α} {j : Nat} {x : α} (h : j < l.length) : set? l (j : Int) x = some (l.set j x) := by
  unfold set?
  rw [if_pos (by omega)]
  simp

/-- What comes into a reach. -/
def inOf (r : TRiver) (sides : List (List TBounds)) : Nat → Nat → TBounds
  | 0, _ => ⟨0, 0⟩
  | i + 1, k => flowAt r sides i ((k : Int) - (reachAt r i).Delay)
theorem inflow_eq {r : TRiver} {sides : List (List TBounds)} {H : Nat} (h : FcOk r sides H) {i k n : Nat} (hi : i < r.Reaches.length) (hk : k < H) (hn : i ≤ n) :
    F_river_stream_inflow (⟨r, flowsTo r sides H n⟩, (i : Int), (k : Int)) = some (inOf r sides i k) := by
  simp only [F_river_stream_inflow]
  cases i with
  | zero => simp [inOf]
  | succ i =>
    simp only [inOf]
    have hd := reach_of (h.bounds.2.2 i (by omega))
    have hb := h.bounds
    have hm := h.most
    simp only [show ((((i + 1 : Nat) : Int) == 0) : Bool) = false by simp; omega, cond_false]
    rw [show wr (((i + 1 : Nat) : Int) - 1) = (i : Int) by rw [wr_in] <;> omega, idx?_nat (show i < r.Reaches.length by omega)]
    simp only [Option.bind_some, reachAt_eq (show i < r.Reaches.length by omega)]
    by_cases c : (k : Int) < (reachAt r i).Delay
    · simp only [c, decide_true, cond_true, Option.some.injEq]
      cases i <;> rw [flowAt, if_pos (by omega)]
    · simp only [c, decide_false, cond_false]
      rw [idx?_nat (show i < (flowsTo r sides H n).length by rw [flowsTo_length]; omega)]
      simp only [Option.bind_some, flowsTo_get]
      rw [wr_in (n := (k : Int) - (reachAt r i).Delay) (by omega) (by omega)]
      have e : (k : Int) - (reachAt r i).Delay = (((k : Int) - (reachAt r i).Delay).toNat : Int) := by omega
      have hx : idx? (rowOf r sides H i) (((k : Int) - (reachAt r i).Delay).toNat : Int) = some (flowAt r sides i ((k : Int) - (reachAt r i).Delay)) := by
        rw [idx?_nat (by rw [rowOf_length]; omega), rowOf_get, ← e]
      rw [(congrArg (idx? (rowOf r sides H i)) e).trans hx]
      rfl

theorem Sum2_eq {r : TRiver} {sides : List (List TBounds)} {H : Nat} (h : FcOk r sides H) {i k : Nat} (hi : i < r.Reaches.length) :
    F_numbers_Sum [getB sides i k, inOf r sides i k] = some (flowAt r sides i (k : Int)) := by
  obtain ⟨hb1, hb2, _⟩ := h.bounds
  rw [Sum_eq (n := 1000000000000) (by omega) (by omega) (by simp)]
  · simp only [sumB, addB]
    cases i with
    | zero => rw [flowAt, if_neg (by omega)]; simp [inOf]
    | succ i => rw [flowAt, if_neg (by omega)]; simp [inOf, addB]
  · intro x hx
    simp only [List.mem_cons, List.not_mem_nil, or_false] at hx
    rcases hx with rfl | rfl
    · obtain ⟨a1, a2, a3⟩ := h.getB_upTo i k
      exact ⟨a1, a2, by omega⟩
    · cases i with
      | zero => simp [upTo, inOf]
      | succ i =>
        rw [inOf]
        obtain ⟨a1, a2, a3⟩ := h.flow_upTo i ((k : Int) - (reachAt r i).Delay) (by omega)
        exact ⟨a1, a2, by omega⟩

theorem run_eq {r : TRiver} {sides : List (List TBounds)} {H : Nat} (h : FcOk r sides H) (hz : startErr r sides = 0) (hs : ∀ x ∈ sides, x.length ≤ 1000000) : F_river_run (r, sides) = some (⟨r, flowsTo r sides H sides.length⟩, 0) := by
  have hb := h.bounds
  have hm := h.most
  have hfc : fcErr r sides = 0 := by simpa [startErr, h.river] using hz
  simp only [F_river_run, Check_eq, h.river, if_true, Option.bind_some, checkForecast_eq h.river hs, hfc, bne_self_eq_false, cond_false]
  rw [show ((0 : Int), ([] : List (List TBounds))) = (fun i : Nat => ((i : Int), flowsTo r sides H i)) 0 from rfl, loop_run (fun i : Nat => ((i : Int), flowsTo r sides H i)) sides.length (e := flowsTo r sides H sides.length)]
  · rfl
  · intro i hi
    have hir : i < r.Reaches.length := by rw [← h.len]; exact hi
    have hsi := h.hours _ (List.getElem_mem hi)
    simp only [L_river_run_2, Int.ofNat_lt, hi, decide_true, cond_true, idx?_nat hi, Option.bind_some]
    have hmk : mk? (⟨0, 0⟩ : TBounds) ((sides[i].length : Nat) : Int) 16 = some (List.replicate H ⟨0, 0⟩) := by
      unfold mk?
      rw [if_pos (by omega), hsi]
      rfl
    rw [hmk]
    simp only [Option.bind_some]
    have hrl := rowOf_length r sides H i
    rw [show ((0 : Int), List.replicate H (⟨0, 0⟩ : TBounds)) = (fun k : Nat => ((k : Int), (rowOf r sides H i).take k ++ List.replicate ((rowOf r sides H i).length - k) (⟨0, 0⟩ : TBounds))) 0 from by simp [hrl],
      loop_run (fun k : Nat => ((k : Int), (rowOf r sides H i).take k ++ List.replicate ((rowOf r sides H i).length - k) (⟨0, 0⟩ : TBounds))) H (e := rowOf r sides H i)]
    · simp only [Option.bind_some]
      rw [app_of (by rw [flowsTo_length]; simp; omega) (by decide), wr_nat (by omega), flowsTo_succ]
      rfl
    · intro k hk
      simp only [L_river_run_1, hsi, Int.ofNat_lt, hk, decide_true, cond_true, idx?_nat (show k < sides[i].length by omega), Option.bind_some, inflow_eq h hir hk (Nat.le_refl i)]
      rw [← getB_eq hi (show k < sides[i].length by omega), Sum2_eq h hir]
      simp only [Option.bind_some]
      have hlen : k < ((rowOf r sides H i).take k ++ List.replicate ((rowOf r sides H i).length - k) (⟨0, 0⟩ : TBounds)).length := by simp [hrl]; omega
      rw [idx?_nat hlen]
      simp only [Option.bind_some]
      rw [set?_of hlen, wr_nat (by omega)]
      have hkr : k < (rowOf r sides H i).length := by omega
      have := fill_set (rowOf r sides H i) ⟨0, 0⟩ k hkr
      rw [rowOf_get] at this
      rw [this]
      rfl
    · simp only [L_river_run_1, hsi]
      simp [hrl, List.take_of_length_le]
  · simp [L_river_run_2]
theorem run_err {r : TRiver} {sides : List (List TBounds)} (hz : startErr r sides ≠ 0) (hs : ∀ x ∈ sides, x.length ≤ 1000000) : F_river_run (r, sides) = some (⟨⟨[], []⟩, []⟩, startErr r sides) := by
  simp only [F_river_run, Check_eq, Option.bind_some]
  unfold startErr at hz ⊢
  cases hr : riverOk r with
  | false => rfl
  | true =>
    rw [hr] at hz
    simp only [if_true] at hz
    simp only [if_true, bne_self_eq_false, cond_false, checkForecast_eq hr hs, Option.bind_some, show (fcErr r sides != 0) = true by simpa using hz, cond_true]
set_option maxHeartbeats 1000000

def largeF (r : TRiver) (s : List (List TBounds)) : Bool := decide (r.Reaches.length > 25) || (decide (r.Shoals.length > 50) || (decide (s.length > 25) || (!(r.Reaches.all fun x => decide (x.Curve.length ≤ 40)) || !(s.all fun x => decide (x.length ≤ 450)))))
theorem large_eq {r : TRiver} {s : List (List TBounds)} (hl : r.Reaches.length ≤ 140737488355328) (hs : s.length ≤ 140737488355328) : F_thalweglaw01_large ⟨r, s⟩ = some (largeF r s) := by
  unfold F_thalweglaw01_large
  simp only
  by_cases h1 : r.Reaches.length > 25
  · simp [largeF, h1, show ((r.Reaches.length : Int) > 25) by omega]
  · simp only [show decide ((r.Reaches.length : Int) > 25) = false by simp; omega, cond_false]
    by_cases h2 : r.Shoals.length > 50
    · simp [largeF, h2, show ((r.Shoals.length : Int) > 50) by omega]
    · simp only [show decide ((r.Shoals.length : Int) > 50) = false by simp; omega, cond_false]
      by_cases h3 : s.length > 25
      · simp [largeF, h3, show ((s.length : Int) > 25) by omega]
      · simp only [show decide ((s.length : Int) > 25) = false by simp; omega, cond_false]
        rw [show (0 : Int) = ((0 : Nat) : Int) from rfl,
          loop_list r.Reaches (fun k => (k : Int)) (fun x => decide (x.Curve.length ≤ 40)) (e := .inl ()) (f := .inr true)]
        · simp only [largeF, h1, h2, h3, decide_false, Bool.false_or]
          cases hq : r.Reaches.all fun x => decide (x.Curve.length ≤ 40) with
          | false => rfl
          | true =>
            simp only [if_true, Option.bind_some]
            rw [loop_list s (fun k => (k : Int)) (fun x => decide (x.length ≤ 450)) (e := .inl ()) (f := .inr true)]
            · cases hz : s.all fun x => decide (x.length ≤ 450) <;> rfl
            · intro k hk
              simp only [L_thalweglaw01_large_2, Int.ofNat_lt, hk, decide_true, cond_true, idx?_nat hk, Option.bind_some]
              rw [wr_nat (by omega)]
              by_cases h3 : s[k].length ≤ 450
              · simp [h3, show ¬ ((s[k].length : Int) > 450) by omega]
              · simp [h3, show ((s[k].length : Int) > 450) by omega]
            · simp [L_thalweglaw01_large_2]
        · intro k hk
          simp only [L_thalweglaw01_large_1, Int.ofNat_lt, hk, decide_true, cond_true, idx?_nat hk, Option.bind_some]
          rw [wr_nat (by omega)]
          by_cases h3 : r.Reaches[k].Curve.length ≤ 40
          · simp [h3, show ¬ ((r.Reaches[k].Curve.length : Int) > 40) by omega]
          · simp [h3, show ((r.Reaches[k].Curve.length : Int) > 40) by omega]
        · simp [L_thalweglaw01_large_1]

set_option maxHeartbeats 1000000

theorem of_loop (r : TRiver) (place : Int) (sh : List TShoal) : ∀ (m : List TReach) (k : Nat) (e : Int), r.Reaches.drop k = m → (∀ x ∈ m, 0 ≤ x.Length ∧ x.Length ≤ 5000) → 0 ≤ e → e ≤ place → place < e + tot m → place ≤ 1000000000 → k + m.length ≤ 1000000 →
    ∃ (j : Nat) (hj : j < r.Reaches.length), loopC (L_thalwegref01_Of_1 r).step (place - e, (k : Int)) = some (j : Int) ∧ findGo place sh m e k = some ⟨r.Reaches[j], (j : Int), place, sh⟩
  | [], k, e, h, _, _, h1, h2, _, _ => by rw [tot] at h2; omega
  | x :: m, k, e, h, hx, h0, h1, h2, h3, hk => by
    obtain ⟨hl, hg, hd⟩ := drop_cons h
    have hx0 := hx x (by simp)
    simp only [List.length_cons] at hk
    rw [tot] at h2
    by_cases c : place < e + x.Length
    · refine ⟨k, hl, ?_, ?_⟩
      · rw [loopC_eq]
        simp only [L_thalwegref01_Of_1, idx?_nat hl, Option.bind_some, hg, show decide (place - e ≥ x.Length) = false by simp; omega, cond_false]
      · rw [findGo, if_pos ⟨by omega, c⟩, hg]
    · obtain ⟨j, hj, a1, a2⟩ := of_loop r place sh m (k + 1) (e + x.Length) hd (fun y hy => hx y (by simp [hy])) (by omega) (by omega) (by omega) h3 (by omega)
      refine ⟨j, hj, ?_, ?_⟩
      · have hs : (L_thalwegref01_Of_1 r).step (place - e, (k : Int)) = some (.inl (place - (e + x.Length), ((k + 1 : Nat) : Int))) := by
          simp only [L_thalwegref01_Of_1, idx?_nat hl, Option.bind_some, hg, show decide (place - e ≥ x.Length) = true by simp; omega, cond_true]
          rw [wr_nat (by omega), wr_in (by omega) (by omega), show place - e - x.Length = place - (e + x.Length) by omega]
        rw [loopC_eq, hs]
        exact a1
      · rw [findGo, if_neg (by omega)]
        exact a2
theorem Of_eq {r : TRiver} {place : Int} (hr : ∀ x ∈ r.Reaches, 0 ≤ x.Length ∧ x.Length ≤ 5000) (hl : r.Reaches.length ≤ 1000) (h0 : 0 ≤ place) (h1 : place < tot r.Reaches) :
    ∃ (j : Nat) (hj : j < r.Reaches.length), F_thalwegref01_Of (r, place) = some (j : Int) ∧ F_river_find (r, place) = some (⟨r.Reaches[j], (j : Int), place, r.Shoals⟩, true) := by
  have hb := tot_bound hr
  obtain ⟨j, hj, a1, a2⟩ := of_loop r place r.Shoals r.Reaches 0 0 rfl hr (by omega) h0 (by omega) (by omega) (by omega)
  refine ⟨j, hj, ?_, ?_⟩
  · unfold F_thalwegref01_Of
    simp only
    rw [show (place, (0 : Int)) = (place - 0, ((0 : Nat) : Int)) by simp, a1]
    rfl
  · rw [find_eq hr hl, a2]

theorem find_in {r : TRiver} {place : Int} (hr : ∀ x ∈ r.Reaches, 0 ≤ x.Length ∧ x.Length ≤ 5000) (hl : r.Reaches.length ≤ 1000) : ∃ s, F_river_find (r, place) = some (s, inB place 0 (tot r.Reaches - 1)) := by
  have hf := findGo_some (place := place) (sh := r.Shoals) (e := 0) (k := 0) hr (by omega)
  have hf : (findGo place r.Shoals r.Reaches 0 0).isSome = inB place 0 (tot r.Reaches - 1) := by
    rw [Bool.eq_iff_iff, hf, inB_iff]; omega
  rw [find_eq hr hl, ← hf]
  cases findGo place r.Shoals r.Reaches 0 0 with
  | none => exact ⟨_, rfl⟩
  | some s => exact ⟨_, rfl⟩
/-- The level of a reach in an hour. -/
def levAt (r : TRiver) (s : List (List TBounds)) (j : Nat) (h : Int) : TBounds := levB (reachAt r j) (flowAt r s j h)
theorem FcOk.lens {r : TRiver} {s : List (List TBounds)} {H : Nat} (h : FcOk r s H) : (∀ x ∈ r.Reaches, 0 ≤ x.Length ∧ x.Length ≤ 5000) ∧ r.Reaches.length ≤ 20 := by
  have h1 := h.river
  simp only [riverOk, Bool.and_eq_true, inB_iff, List.all_eq_true] at h1
  exact ⟨fun x hx => reachOk_len (h1.2.1 x hx), by omega⟩
set_option maxHeartbeats 1000000

set_option maxHeartbeats 1000000

/-- Is a forecast one that the program accepts? -/
def validF (r : TRiver) (s : List (List TBounds)) : Bool := !largeF r s && decide (startErr r s = 0)
theorem vB_side (b : TBounds) {x y : Option (Int ⊕ Unit ⊕ Bool)} : (bif decide (b.Low < 0) then x else bif decide (b.Low > b.High) then x else bif decide (b.High > 10000000000) then x else y) = if vB b 0 10000000000 then y else x := by
  by_cases c1 : b.Low < 0
  · have : vB b 0 10000000000 = false := by rw [Bool.eq_false_iff]; simp only [vB, inB, ne_eq, Bool.and_eq_true, decide_eq_true_eq]; omega
    simp [c1, this]
  · by_cases c2 : b.Low > b.High
    · have : vB b 0 10000000000 = false := by rw [Bool.eq_false_iff]; simp only [vB, inB, ne_eq, Bool.and_eq_true, decide_eq_true_eq]; omega
      simp [c1, c2, this]
    · by_cases c3 : b.High > 10000000000
      · have : vB b 0 10000000000 = false := by rw [Bool.eq_false_iff]; simp only [vB, inB, ne_eq, Bool.and_eq_true, decide_eq_true_eq]; omega
        simp [c1, c2, c3, this]
      · have : vB b 0 10000000000 = true := by simp only [vB, inB, Bool.and_eq_true, decide_eq_true_eq]; omega
        simp [c1, c2, c3, this]
theorem valid2_eq {r : TRiver} {s : List (List TBounds)} (h1 : r.Reaches.length ≤ 140737488355328) (h2 : s.length ≤ 140737488355328) : F_thalweglaw01_valid ⟨r, s⟩ = some (validF r s) := by
  simp only [F_thalweglaw01_valid, large_eq h1 h2, Option.bind_some, validF]
  cases hL : largeF r s with
  | true => rfl
  | false =>
    simp only [largeF, Bool.or_eq_false_iff, decide_eq_false_iff_not, Bool.not_eq_false', List.all_eq_true, decide_eq_true_eq] at hL
    obtain ⟨l1, l2, l3, l4, l5⟩ := hL
    have hs : ∀ x ∈ s, x.length ≤ 1000000 := fun x hx => by have := l5 x hx; omega
    simp only [cond_false, Bool.not_false, Bool.true_and, len_bne]
    by_cases c1 : r.Reaches.length < 1
    · have : startErr r s ≠ 0 := by
        intro hz
        obtain ⟨H, h⟩ := fcOk_of hz
        have := h.bounds
        omega
      simp [this, show ((r.Reaches.length : Int) < 1) by omega]
    · simp only [show decide ((r.Reaches.length : Int) < 1) = false by simp; omega, cond_false]
      by_cases c2 : s.length = r.Reaches.length
      · simp only [c2, decide_true, Bool.not_true, cond_false]
        have hsl : 0 < s.length := by omega
        rw [show idx? s 0 = some s[0] from idx?_nat hsl]
        simp only [Option.bind_some]
        by_cases c3 : s[0].length < 1
        · have : startErr r s ≠ 0 := by
            intro hz
            obtain ⟨H, h⟩ := fcOk_of hz
            have := h.hours _ (List.getElem_mem hsl)
            have := h.pos
            omega
          simp [this, show ((s[0].length : Int) < 1) by omega]
        · simp only [show decide ((s[0].length : Int) < 1) = false by simp; omega, cond_false]
          rw [copied_eq (r := r) (by omega) (by omega) (fun y hy => by have := l4 y hy; omega)]
          simp only [Option.bind_some, Check_eq]
          cases hr : riverOk r with
          | false =>
            have : startErr r s ≠ 0 := by simp [startErr, hr]
            simp [this]
          | true =>
            simp only [if_true, bne_self_eq_false, cond_false]
            have hq : ∀ x ∈ s, ∀ e : Unit ⊕ Bool, e = .inl () ∨ e = .inr false → True := fun _ _ _ _ => trivial
            rw [show (0 : Int) = ((0 : Nat) : Int) from rfl, loop_list s (fun k => (k : Int)) (fun x => decide (x.length = s[0].length) && sideOk x) (e := .inl ()) (f := .inr false)]
            · have hse : startErr r s = if !(s.all fun x => decide (x.length = s[0].length)) then 4 else if s[0].length > 400 then 5 else if !(s.all sideOk) then 2 else 0 := by
                simp only [startErr, hr, if_true, fcErr, c2, ne_eq, not_true_eq_false, if_false]
                cases s with
                | nil => simp at hsl
                | cons y m => simp only [List.getElem_cons_zero] at c3 ⊢; rw [if_neg (by omega)]
              rw [hse]
              have hand : (s.all fun x => decide (x.length = s[0].length) && sideOk x) = ((s.all fun x => decide (x.length = s[0].length)) && s.all sideOk) := by
                rw [Bool.eq_iff_iff]; simp only [Bool.and_eq_true, List.all_eq_true]
                exact ⟨fun h => ⟨fun x hx => (h x hx).1, fun x hx => (h x hx).2⟩, fun h x hx => ⟨h.1 x hx, h.2 x hx⟩⟩
              rw [hand]
              cases ha : s.all fun x => decide (x.length = s[0].length) with
              | false => simp
              | true =>
                cases hb : s.all sideOk with
                | false =>
                  simp only [Bool.and_false, if_false, Bool.false_eq_true, Option.bind_some, Bool.not_true, Bool.not_false, if_true]
                  by_cases c4 : s[0].length > 400 <;> simp [c4]
                | true =>
                  simp only [Bool.and_self, if_true, Option.bind_some, Bool.not_true, Bool.false_eq_true, if_false, show idx? s ((0 : Nat) : Int) = some s[0] from idx?_nat hsl]
                  by_cases c4 : s[0].length > 400
                  · simp [c4]; omega
                  · simp [c4]; omega
            · intro k hk
              simp only [L_thalweglaw01_valid_2, Int.ofNat_lt, hk, decide_true, cond_true, idx?_nat hk, Option.bind_some, show idx? s 0 = some s[0] from idx?_nat hsl, len_bne]
              have hkl := hs _ (List.getElem_mem hk)
              cases hd : decide (s[k].length = s[0].length) with
              | false => rfl
              | true =>
                simp only [Bool.not_true, cond_false, Bool.true_and]
                rw [show (0 : Int) = ((0 : Nat) : Int) from rfl, loop_list s[k] (fun j => (j : Int)) (fun b => vB b 0 10000000000) (e := .inl ()) (f := .inr false)]
                · rw [wr_nat (by omega), show sideOk s[k] = s[k].all fun b => vB b 0 10000000000 from rfl]
                  cases (s[k].all fun b => vB b 0 10000000000) <;> rfl
                · intro j hj
                  simp only [L_thalweglaw01_valid_1, idx?_nat hk, Option.bind_some, Int.ofNat_lt, hj, decide_true, cond_true, idx?_nat hj]
                  rw [wr_nat (by omega), vB_side]
                  cases vB s[k][j] 0 10000000000 <;> rfl
                · simp [L_thalweglaw01_valid_1, idx?_nat hk]
            · simp [L_thalweglaw01_valid_2]
      · have : startErr r s ≠ 0 := by
          intro hz
          obtain ⟨H, h⟩ := fcOk_of hz
          exact c2 h.len
        simp [c2, this]

set_option maxHeartbeats 1000000

def shoalLo (x : TShoal) (h : Int) : Int := x.Bed.Low + (x.Grow.Low * minmax true 0 (h - x.Sounded)) / 24
def shoalHi (x : TShoal) (h : Int) : Int := x.Bed.High + -((-(x.Grow.High * minmax true 0 (h - x.Sounded))) / 24)
def shOk (x : TShoal) : Prop := 0 ≤ x.Bed.Low ∧ x.Bed.Low ≤ 10000 ∧ 0 ≤ x.Bed.High ∧ x.Bed.High ≤ 10000 ∧ -400 ≤ x.Sounded ∧ x.Sounded ≤ 400 ∧ -500 ≤ x.Grow.Low ∧ x.Grow.Low ≤ 500 ∧ -500 ≤ x.Grow.High ∧ x.Grow.High ≤ 500
theorem shOk_of {r : TRiver} {x : TShoal} (h : shoalOk r x = true) : shOk x := by
  simp only [shoalOk, vB, Bool.and_eq_true, inB_iff, decide_eq_true_eq] at h
  unfold shOk
  omega
theorem age_le {h s : Int} (h0 : -1000 ≤ h) (h1 : h ≤ 1000) (s0 : -400 ≤ s) (s1 : s ≤ 400) : 0 ≤ minmax true 0 (h - s) ∧ minmax true 0 (h - s) ≤ 1400 := by
  simp only [minmax, if_true]
  split <;> omega
theorem grow_le {a d : Int} (ha : -500 ≤ a) (ha' : a ≤ 500) (h0 : 0 ≤ d) (h1 : d ≤ 1400) : -700000 ≤ a * d ∧ a * d ≤ 700000 := by
  have e1 := Int.mul_le_mul_of_nonneg_right ha' h0
  have e2 := Int.mul_le_mul_of_nonneg_right ha h0
  omega
theorem shoal_le {x : TShoal} {h : Int} (hx : shOk x) (h0 : -1000 ≤ h) (h1 : h ≤ 1000) : -1000000 ≤ shoalLo x h ∧ shoalLo x h ≤ 1000000 ∧ -1000000 ≤ shoalHi x h ∧ shoalHi x h ≤ 1000000 := by
  obtain ⟨a1, a2, a3, a4, a5, a6, a7, a8, a9, a10⟩ := hx
  have ha := age_le h0 h1 a5 a6
  have g1 := grow_le a7 a8 ha.1 ha.2
  have g2 := grow_le a9 a10 ha.1 ha.2
  unfold shoalLo shoalHi
  generalize x.Grow.Low * minmax true 0 (h - x.Sounded) = u at *
  generalize x.Grow.High * minmax true 0 (h - x.Sounded) = v at *
  omega
theorem shoalAt_eq {x : TShoal} {h : Int} (hx : shOk x) (h0 : -1000 ≤ h) (h1 : h ≤ 1000) : F_river_shoalAt (x, h) = some ⟨shoalLo x h, shoalHi x h⟩ := by
  have hs := shoal_le hx h0 h1
  obtain ⟨a1, a2, a3, a4, a5, a6, a7, a8, a9, a10⟩ := hx
  have ha := age_le h0 h1 a5 a6
  have g1 := grow_le a7 a8 ha.1 ha.2
  have g2 := grow_le a9 a10 ha.1 ha.2
  simp only [F_river_shoalAt]
  rw [wr_in (n := h - x.Sounded) (by omega) (by omega), minmax_comm (h - x.Sounded) 0]
  rw [wr_in (n := x.Grow.Low * minmax true 0 (h - x.Sounded)) (by omega) (by omega), wr_in (n := x.Grow.High * minmax true 0 (h - x.Sounded)) (by omega) (by omega)]
  rw [Down_eq (by decide) (by omega), Up_eq (by decide) (by omega)]
  simp only [Option.bind_some]
  unfold shoalLo shoalHi at hs
  rw [wr_in (n := x.Bed.Low + _) (by omega) (by omega), wr_in (n := x.Bed.High + _) (by omega) (by omega)]
  rfl

def bedGo (place h : Int) : List TShoal → Int → Int → Int × Int
  | [], a, b => (a, b)
  | x :: l, a, b => if x.Place = place then bedGo place h l (minmax true a (shoalLo x h)) (minmax true b (shoalHi x h)) else bedGo place h l a b
theorem max_le {a b m : Int} (h0 : -m ≤ a) (h1 : a ≤ m) (h2 : -m ≤ b) (h3 : b ≤ m) : -m ≤ minmax true a b ∧ minmax true a b ≤ m := by
  simp only [minmax, if_true]
  split <;> omega
theorem bedGo_le {place h : Int} (h0 : -1000 ≤ h) (h1 : h ≤ 1000) : ∀ {l : List TShoal} {a b : Int}, (∀ x ∈ l, shOk x) → -1000000 ≤ a → a ≤ 1000000 → -1000000 ≤ b → b ≤ 1000000 →
    -1000000 ≤ (bedGo place h l a b).1 ∧ (bedGo place h l a b).1 ≤ 1000000 ∧ -1000000 ≤ (bedGo place h l a b).2 ∧ (bedGo place h l a b).2 ≤ 1000000
  | [], a, b, _, a0, a1, b0, b1 => by simp only [bedGo]; omega
  | x :: l, a, b, hx, a0, a1, b0, b1 => by
    have hs := shoal_le (hx x (by simp)) h0 h1
    have m1 := max_le a0 a1 hs.1 hs.2.1
    have m2 := max_le b0 b1 hs.2.2.1 hs.2.2.2
    simp only [bedGo]
    split
    · exact bedGo_le h0 h1 (fun y hy => hx y (by simp [hy])) m1.1 m1.2 m2.1 m2.2
    · exact bedGo_le h0 h1 (fun y hy => hx y (by simp [hy])) a0 a1 b0 b1
theorem bed_loop (p : Triver_site) {h : Int} (h0 : -1000 ≤ h) (h1 : h ≤ 1000) : ∀ (m : List TShoal) (k : Nat) (a b : Int), p.shoals_.drop k = m → (∀ x ∈ m, shOk x) → k + m.length ≤ 1000000 →
    loopC (L_river_site_bed_1 p h).step ((k : Int), a, b) = some (bedGo p.place_ h m a b)
  | [], k, a, b, hd, _, _ => by
    have := drop_nil hd
    have e : (L_river_site_bed_1 p h).step ((k : Int), a, b) = some (.inr (a, b)) := by
      simp only [L_river_site_bed_1, decide_eq_false (show ¬ (k : Int) < (p.shoals_.length : Int) by omega), cond_false]
    rw [loopC_eq, e]
    rfl
  | x :: m, k, a, b, hd, hx, hk => by
    obtain ⟨hl, hg, hd'⟩ := drop_cons hd
    have hx0 := hx x (by simp)
    simp only [List.length_cons] at hk
    have ih := fun a b => bed_loop p h0 h1 m (k + 1) a b hd' (fun y hy => hx y (by simp [hy])) (by omega)
    have e : (L_river_site_bed_1 p h).step ((k : Int), a, b) = some (.inl (if x.Place = p.place_ then (((k + 1 : Nat) : Int), minmax true a (shoalLo x h), minmax true b (shoalHi x h)) else (((k + 1 : Nat) : Int), a, b))) := by
      simp only [L_river_site_bed_1, decide_eq_true (show (k : Int) < (p.shoals_.length : Int) by omega), cond_true, idx?_nat hl, Option.bind_some, hg, shoalAt_eq hx0 h0 h1]
      rw [wr_nat (by omega)]
      by_cases c : x.Place = p.place_
      · rw [if_pos c, c]; simp
      · rw [if_neg c, show (x.Place == p.place_) = false by simpa using c]; rfl
    rw [loopC_eq, e, bedGo]
    by_cases c : x.Place = p.place_
    · rw [if_pos c, if_pos c]; exact ih _ _
    · rw [if_neg c, if_neg c]; exact ih _ _
/-- The bed at a place of a reach. -/
def bedOf (r : TRiver) (j : Nat) (place h : Int) : TBounds := ⟨(bedGo place h r.Shoals (reachAt r j).Bottom.Low (reachAt r j).Bottom.High).1, (bedGo place h r.Shoals (reachAt r j).Bottom.Low (reachAt r j).Bottom.High).2⟩
theorem river_parts {r : TRiver} (h : riverOk r = true) : (∀ x ∈ r.Reaches, 0 ≤ x.Length ∧ x.Length ≤ 5000) ∧ 1 ≤ r.Reaches.length ∧ r.Reaches.length ≤ 20 ∧ r.Shoals.length ≤ 40 ∧ (∀ x ∈ r.Shoals, shOk x) ∧ ∀ j, j < r.Reaches.length → reachOk (reachAt r j) = true := by
  simp only [riverOk, Bool.and_eq_true, inB_iff, List.all_eq_true, decide_eq_true_eq] at h
  refine ⟨fun x hx => reachOk_len (h.2.1 x hx), by omega, by omega, h.2.2.1, fun x hx => shOk_of (h.2.2.2 x hx), fun j hj => ?_⟩
  rw [reachAt, List.getElem?_eq_getElem hj]
  exact h.2.1 _ (List.getElem_mem hj)
theorem bottom_of {x : TReach} (h : reachOk x = true) : 0 ≤ x.Bottom.Low ∧ x.Bottom.Low ≤ 10000 ∧ 0 ≤ x.Bottom.High ∧ x.Bottom.High ≤ 10000 ∧ 0 ≤ x.Weir ∧ x.Weir ≤ 10000 := by
  simp only [reachOk, vB, Bool.and_eq_true, inB_iff, decide_eq_true_eq] at h
  omega
theorem siteBed_eq {r : TRiver} (hr : riverOk r = true) {j : Nat} (hj : j < r.Reaches.length) {place h : Int} (h0 : -1000 ≤ h) (h1 : h ≤ 1000) : F_river_site_bed (⟨reachAt r j, (j : Int), place, r.Shoals⟩, h) = some (bedOf r j place h) := by
  obtain ⟨p1, p2, p3, p4, p5, p6⟩ := river_parts hr
  have hb := bottom_of (p6 j hj)
  simp only [F_river_site_bed]
  rw [show minmax true 0 (reachAt r j).Bottom.Low = (reachAt r j).Bottom.Low by simp only [minmax, if_true]; split <;> omega, show minmax true 0 (reachAt r j).Bottom.High = (reachAt r j).Bottom.High by simp only [minmax, if_true]; split <;> omega]
  rw [show ((0 : Int), (reachAt r j).Bottom.Low, (reachAt r j).Bottom.High) = (((0 : Nat) : Int), (reachAt r j).Bottom.Low, (reachAt r j).Bottom.High) from rfl,
    bed_loop ⟨reachAt r j, (j : Int), place, r.Shoals⟩ h0 h1 r.Shoals 0 _ _ rfl p5 (by omega)]
  rfl
theorem bedOf_le {r : TRiver} (hr : riverOk r = true) {j : Nat} (hj : j < r.Reaches.length) {place h : Int} (h0 : -1000 ≤ h) (h1 : h ≤ 1000) : -1000000 ≤ (bedOf r j place h).Low ∧ (bedOf r j place h).Low ≤ 1000000 ∧ -1000000 ≤ (bedOf r j place h).High ∧ (bedOf r j place h).High ≤ 1000000 := by
  obtain ⟨p1, p2, p3, p4, p5, p6⟩ := river_parts hr
  have hb := bottom_of (p6 j hj)
  exact bedGo_le h0 h1 p5 (by omega) (by omega) (by omega) (by omega)

/-- What the program says of a bed. -/
theorem Bed_eq {r : TRiver} (place h : Int) :
    (riverOk r = false → F_river_Bed (r, place, h) = some (⟨0, 0⟩, 2)) ∧
    (riverOk r = true → inB place 0 (tot r.Reaches - 1) = false → F_river_Bed (r, place, h) = some (⟨0, 0⟩, 7)) ∧
    (riverOk r = true → inB place 0 (tot r.Reaches - 1) = true → inB h (-400) 400 = false → F_river_Bed (r, place, h) = some (⟨0, 0⟩, 3)) ∧
    (riverOk r = true → inB place 0 (tot r.Reaches - 1) = true → inB h (-400) 400 = true → ∃ j, j < r.Reaches.length ∧ F_thalwegref01_Of (r, place) = some (j : Int) ∧ F_river_Bed (r, place, h) = some (bedOf r j place h, 0)) := by
  refine ⟨fun hr => ?_, fun hr hpl => ?_, fun hr hpl hh => ?_, fun hr hpl hh => ?_⟩
  · simp only [F_river_Bed, Check_eq, hr, Option.bind_some]
    rfl
  all_goals obtain ⟨p1, p2, p3, p4, p5, p6⟩ := river_parts hr
  all_goals obtain ⟨st, hst⟩ := find_in (place := place) p1 (show r.Reaches.length ≤ 1000 by omega)
  · simp only [F_river_Bed, Check_eq, hr, Option.bind_some, if_true, bne_self_eq_false, cond_false, hst, hpl, Bool.not_false, cond_true]
  · simp only [F_river_Bed, Check_eq, hr, Option.bind_some, if_true, bne_self_eq_false, cond_false, hst, hpl, Bool.not_true, within1, hh, Bool.not_false, cond_true]
  · have hpl' := hpl
    have hh' := hh
    rw [inB_iff] at hpl' hh'
    obtain ⟨j, hj, a1, a2⟩ := Of_eq p1 (show r.Reaches.length ≤ 1000 by omega) hpl'.1 (by omega)
    refine ⟨j, hj, a1, ?_⟩
    rw [reachAt_eq hj] at a2
    simp only [F_river_Bed, Check_eq, hr, Option.bind_some, if_true, bne_self_eq_false, cond_false, a2, Bool.not_true, within1, hh, siteBed_eq hr hj (show -1000 ≤ h by omega) (show h ≤ 1000 by omega)]

theorem level_small {l : List TRateRow} {n : Int} {up : Bool} (hc : curveOk l = true) : -200000000000000 ≤ levelOf l n up ∧ levelOf l n up ≤ 200000000000000 := by
  simp only [curveOk, Bool.and_eq_true, inB_iff] at hc
  obtain ⟨hl, hps, hrs⟩ := hc
  have hle := first_le l n
  by_cases c : firstAt l n < l.length
  · have ci : firstAt l n - 1 < l.length := by omega
    have r1 := row_in hrs ci
    have r2 := row_in hrs c
    simp only [levelOf, List.getElem?_eq_getElem c, List.getElem?_eq_getElem ci]
    by_cases c0 : firstAt l n = 0
    · rw [if_pos c0]; omega
    · rw [if_neg c0]
      have f1 := first_lt (n := n) (show firstAt l n - 1 < firstAt l n by omega) ci
      have f2 := first_at c
      have lv := levels_up hps (a := firstAt l n - 1) (by omega)
      simp only [show firstAt l n - 1 + 1 = firstAt l n by omega] at lv
      have hm := mul_small (a := l[firstAt l n].Level - l[firstAt l n - 1].Level) (b := n - l[firstAt l n - 1].Flow) (by omega) (by omega) (by omega) (by omega)
      have hd := div_small (b := l[firstAt l n].Flow - l[firstAt l n - 1].Flow) (by omega) hm.1 hm.2 up
      omega
  · have ce : firstAt l n = l.length := by omega
    have ci : l.length - 1 < l.length := by omega
    have r1 := row_in hrs ci
    simp only [levelOf, ce, List.getElem?_eq_none (Nat.le_refl l.length), List.getElem?_eq_getElem ci]
    omega
theorem lev_le {x : TReach} {b : TBounds} (h : reachOk x = true) : -200000000000000 ≤ (levB x b).Low ∧ (levB x b).Low ≤ 200000000000000 ∧ -200000000000000 ≤ (levB x b).High ∧ (levB x b).High ≤ 200000000000000 := by
  have hb := bottom_of h
  have l1 := level_small (n := b.Low) (up := false) (reachOk_curve h)
  have l2 := level_small (n := b.High) (up := true) (reachOk_curve h)
  have m1 := max_le (m := 200000000000000) (b := x.Weir) l1.1 l1.2 (by omega) (by omega)
  have m2 := max_le (m := 200000000000000) (b := x.Weir) l2.1 l2.2 (by omega) (by omega)
  exact ⟨m1.1, m1.2, m2.1, m2.2⟩

/-- The depth at a place of a reach. -/
def depthOf (r : TRiver) (s : List (List TBounds)) (j : Nat) (place h : Int) : TBounds := ⟨minmax true 0 ((levAt r s j h).Low - (bedOf r j place h).High), minmax true 0 ((levAt r s j h).High - (bedOf r j place h).Low)⟩
theorem streamDepth_eq {r : TRiver} {s : List (List TBounds)} {H : Nat} (h : FcOk r s H) {j kn : Nat} (hj : j < r.Reaches.length) (hk : kn < H) (place : Int) :
    F_river_stream_depth (⟨r, flowsTo r s H s.length⟩, ⟨reachAt r j, (j : Int), place, r.Shoals⟩, (kn : Int)) = some (depthOf r s j place (kn : Int)) := by
  have hb := h.bounds
  have hm := h.most
  have hln := h.len
  have hlev : F_river_stream_level (⟨r, flowsTo r s H s.length⟩, (j : Int), (kn : Int)) = some (levAt r s j (kn : Int)) := by
    simp only [F_river_stream_level, idx?_nat hj, Option.bind_some]
    rw [idx?_nat (by rw [flowsTo_length]; omega), flowsTo_get]
    simp only [Option.bind_some]
    rw [idx?_nat (by rw [rowOf_length]; omega), rowOf_get]
    simp only [Option.bind_some]
    rw [reachAt_eq hj, levelAt_eq (reachOk_curve (hb.2.2 j hj))]
    rfl
  have l1 := lev_le (b := flowAt r s j (kn : Int)) (hb.2.2 j hj)
  have l2 := bedOf_le h.river hj (place := place) (h := (kn : Int)) (by omega) (by omega)
  have e : levAt r s j (kn : Int) = levB (reachAt r j) (flowAt r s j (kn : Int)) := rfl
  rw [← e] at l1
  simp only [F_river_stream_depth, hlev, Option.bind_some, siteBed_eq h.river hj (show -1000 ≤ (kn : Int) by omega) (show (kn : Int) ≤ 1000 by omega)]
  rw [wr_in (n := (levAt r s j (kn : Int)).Low - _) (by omega) (by omega), wr_in (n := (levAt r s j (kn : Int)).High - _) (by omega) (by omega), minmax_comm _ 0, minmax_comm _ 0]
  rfl
theorem Depth_eq {r : TRiver} {s : List (List TBounds)} {H : Nat} (h : FcOk r s H) (hz : startErr r s = 0) (hs : ∀ x ∈ s, x.length ≤ 1000000) (place k : Int) :
    (inB place 0 (tot r.Reaches - 1) = false → F_river_Depth (r, s, place, k) = some (⟨0, 0⟩, 7)) ∧
    (inB place 0 (tot r.Reaches - 1) = true → inB k 0 ((H : Int) - 1) = false → F_river_Depth (r, s, place, k) = some (⟨0, 0⟩, 3)) ∧
    (inB place 0 (tot r.Reaches - 1) = true → inB k 0 ((H : Int) - 1) = true → ∃ j, j < r.Reaches.length ∧ F_thalwegref01_Of (r, place) = some (j : Int) ∧ F_river_Depth (r, s, place, k) = some (depthOf r s j place k, 0)) := by
  obtain ⟨hr, hrl⟩ := h.lens
  have hm := h.most
  have hp := h.pos
  have hln := h.len
  have hb := h.bounds
  obtain ⟨st, hst⟩ := find_in (place := place) hr (by omega)
  have hrun := run_eq h hz hs
  have hhr : F_river_stream_hours ⟨r, flowsTo r s H s.length⟩ = some (H : Int) := by
    simp only [F_river_stream_hours]
    rw [show (0 : Int) = ((0 : Nat) : Int) from rfl, idx?_nat (by rw [flowsTo_length]; omega), flowsTo_get]
    simp only [Option.bind_some, rowOf_length]
  have hw : wr ((H : Int) - 1) = (H : Int) - 1 := wr_in (by omega) (by omega)
  refine ⟨fun hpl => ?_, fun hpl hk => ?_, fun hpl hk => ?_⟩
  · simp only [F_river_Depth, hrun, Option.bind_some, bne_self_eq_false, cond_false, F_river_stream_findAt, hst, hpl, Bool.not_false, cond_true]
    rfl
  · simp only [F_river_Depth, hrun, Option.bind_some, bne_self_eq_false, cond_false, F_river_stream_findAt, hst, hpl, Bool.not_true, hhr, hw, within1, hk, Bool.not_false, cond_true]
    rfl
  · have hpl' := hpl
    have hk' := hk
    rw [inB_iff] at hpl' hk'
    obtain ⟨j, hj, a1, a2⟩ := Of_eq hr (show r.Reaches.length ≤ 1000 by omega) hpl'.1 (by omega)
    refine ⟨j, hj, a1, ?_⟩
    rw [reachAt_eq hj] at a2
    obtain ⟨kn, rfl⟩ := Int.eq_ofNat_of_zero_le hk'.1
    simp only [F_river_Depth, hrun, Option.bind_some, bne_self_eq_false, cond_false, F_river_stream_findAt, a2, Bool.not_true, hhr, hw, within1, hk, streamDepth_eq h hj (show kn < H by omega) place]
set_option maxHeartbeats 1000000

set_option maxHeartbeats 1000000

/-! errors of ways -/
def passErr (r : TRiver) (H : Int) (p : TPass) : Int := if inB p.Place 0 (tot r.Reaches - 1) then (if vB p.Hours 0 (H - 1) then 0 else 3) else 7
def wayGo (r : TRiver) (H : Int) : List TPass → Int
  | [] => 0
  | p :: l => if passErr r H p = 0 then wayGo r H l else passErr r H p
def wayErr (r : TRiver) (H : Int) (l : List TPass) : Int := if l.length = 0 then 4 else if l.length > 60 then 5 else wayGo r H l
theorem checkWay_loop {r : TRiver} {fl : List (List TBounds)} {H : Nat} (hH : H ≤ 1000) (hr : ∀ x ∈ r.Reaches, 0 ≤ x.Length ∧ x.Length ≤ 5000) (hl : r.Reaches.length ≤ 1000) (hh : F_river_stream_hours ⟨r, fl⟩ = some (H : Int)) (way : List TPass) : ∀ (m : List TPass) (k : Nat), way.drop k = m → k + m.length ≤ 1000000 →
    loopC (L_river_stream_checkWay_1 way ⟨r, fl⟩).step (k : Int) = some (if wayGo r H m = 0 then .inl () else .inr (wayGo r H m))
  | [], k, hd, _ => by
    have := drop_nil hd
    have e : (L_river_stream_checkWay_1 way ⟨r, fl⟩).step (k : Int) = some (.inr (.inl ())) := by
      simp only [L_river_stream_checkWay_1, decide_eq_false (show ¬ (k : Int) < (way.length : Int) by omega), cond_false]
    rw [loopC_eq, e]
    simp [wayGo]
  | p :: m, k, hd, hk => by
    obtain ⟨hlt, hg, hd'⟩ := drop_cons hd
    simp only [List.length_cons] at hk
    have ih := checkWay_loop hH hr hl hh way m (k + 1) hd' (by omega)
    obtain ⟨st, hst⟩ := find_in (place := p.Place) hr hl
    have e : (L_river_stream_checkWay_1 way ⟨r, fl⟩).step (k : Int) = some (if passErr r H p = 0 then .inl ((k + 1 : Nat) : Int) else .inr (.inr (passErr r H p))) := by
      simp only [L_river_stream_checkWay_1, decide_eq_true (show (k : Int) < (way.length : Int) by omega), cond_true, idx?_nat hlt, Option.bind_some, hg, hst, hh, valid_eq]
      rw [wr_nat (by omega), wr_in (n := (H : Int) - 1) (by omega) (by omega)]
      unfold passErr
      cases inB p.Place 0 (tot r.Reaches - 1) <;> cases vB p.Hours 0 ((H : Int) - 1) <;> rfl
    rw [loopC_eq, e, wayGo]
    by_cases c : passErr r H p = 0
    · rw [if_pos c, if_pos c]; exact ih
    · rw [if_neg c, if_neg c, if_neg c]
theorem checkWay_eq {r : TRiver} {fl : List (List TBounds)} {H : Nat} (hH : H ≤ 1000) (hr : ∀ x ∈ r.Reaches, 0 ≤ x.Length ∧ x.Length ≤ 5000) (hl : r.Reaches.length ≤ 1000) (hh : F_river_stream_hours ⟨r, fl⟩ = some (H : Int)) {way : List TPass} (hw : way.length ≤ 1000) :
    F_river_stream_checkWay (⟨r, fl⟩, way) = some (wayErr r H way) := by
  have hloop := checkWay_loop hH hr hl hh way way 0 rfl (by omega)
  have hloop : loopC (L_river_stream_checkWay_1 way ⟨r, fl⟩).step 0 = _ := hloop
  simp only [F_river_stream_checkWay, hloop, wayErr]
  by_cases c0 : way.length = 0
  · simp [c0]
  · rw [show (((way.length : Nat) : Int) == 0) = false by simpa using c0, if_neg c0]
    by_cases c1 : way.length > 60
    · rw [decide_eq_true (show (way.length : Int) > 60 by omega), if_pos c1]; rfl
    · rw [decide_eq_false (show ¬ (way.length : Int) > 60 by omega), if_neg c1]
      simp only [cond_false]
      by_cases c : wayGo r H way = 0
      · rw [if_pos c, c]; rfl
      · rw [if_neg c]; rfl
/-! how small depths are -/
theorem part_le {dy t dF : Int} (hF : 0 < dF) (h0 : 0 ≤ dy) (h1 : 0 ≤ t) (h2 : t ≤ dF) (up : Bool) : 0 ≤ divB up (dy * t) dF ∧ divB up (dy * t) dF ≤ dy := by
  have m0 : 0 ≤ dy * t := Int.mul_nonneg h0 h1
  have m1 : dy * t ≤ dy * dF := Int.mul_le_mul_of_nonneg_left h2 h0
  unfold divB
  split
  · have e1 : (-(dy * t)) / dF ≤ 0 := by
      have := Int.ediv_le_ediv hF (show -(dy * t) ≤ 0 by omega)
      simpa using this
    have e2 : -dy ≤ (-(dy * t)) / dF := by
      rw [Int.le_ediv_iff_mul_le hF, Int.neg_mul]
      omega
    omega
  · refine ⟨Int.ediv_nonneg m0 (by omega), ?_⟩
    have : dy * t / dF ≤ dy * dF / dF := Int.ediv_le_ediv hF m1
    rwa [Int.mul_ediv_cancel _ (by omega)] at this
theorem level_tight {l : List TRateRow} {n : Int} {up : Bool} (hc : curveOk l = true) : 0 ≤ levelOf l n up ∧ levelOf l n up ≤ 10000 := by
  simp only [curveOk, Bool.and_eq_true, inB_iff] at hc
  obtain ⟨hl, hps, hrs⟩ := hc
  have hle := first_le l n
  by_cases c : firstAt l n < l.length
  · have ci : firstAt l n - 1 < l.length := by omega
    have r1 := row_in hrs ci
    have r2 := row_in hrs c
    simp only [levelOf, List.getElem?_eq_getElem c, List.getElem?_eq_getElem ci]
    by_cases c0 : firstAt l n = 0
    · rw [if_pos c0]; omega
    · rw [if_neg c0]
      have f1 := first_lt (n := n) (show firstAt l n - 1 < firstAt l n by omega) ci
      have f2 := first_at c
      have lv := levels_up hps (a := firstAt l n - 1) (by omega)
      simp only [show firstAt l n - 1 + 1 = firstAt l n by omega] at lv
      have hd := part_le (dy := l[firstAt l n].Level - l[firstAt l n - 1].Level) (t := n - l[firstAt l n - 1].Flow) (dF := l[firstAt l n].Flow - l[firstAt l n - 1].Flow) (by omega) (by omega) (by omega) (by omega) up
      omega
  · have ce : firstAt l n = l.length := by omega
    have ci : l.length - 1 < l.length := by omega
    have r1 := row_in hrs ci
    simp only [levelOf, ce, List.getElem?_eq_none (Nat.le_refl l.length), List.getElem?_eq_getElem ci]
    omega
theorem bedGo_ge {place h : Int} : ∀ {l : List TShoal} {a b : Int}, 0 ≤ a → 0 ≤ b → 0 ≤ (bedGo place h l a b).1 ∧ 0 ≤ (bedGo place h l a b).2
  | [], a, b, a0, b0 => ⟨a0, b0⟩
  | x :: l, a, b, a0, b0 => by
    simp only [bedGo]
    split
    · refine bedGo_ge ?_ ?_ <;> simp only [minmax, if_true] <;> split <;> omega
    · exact bedGo_ge a0 b0
theorem depth_le {r : TRiver} {s : List (List TBounds)} (hr : riverOk r = true) {j : Nat} (hj : j < r.Reaches.length) {place h : Int} : 0 ≤ (depthOf r s j place h).Low ∧ (depthOf r s j place h).Low ≤ 10000 ∧ 0 ≤ (depthOf r s j place h).High ∧ (depthOf r s j place h).High ≤ 10000 := by
  obtain ⟨p1, p2, p3, p4, p5, p6⟩ := river_parts hr
  have hb := bottom_of (p6 j hj)
  have hg := bedGo_ge (place := place) (h := h) (l := r.Shoals) hb.1 hb.2.2.1
  have l1 := level_tight (n := (flowAt r s j h).Low) (up := false) (reachOk_curve (p6 j hj))
  have l2 := level_tight (n := (flowAt r s j h).High) (up := true) (reachOk_curve (p6 j hj))
  simp only [depthOf, levAt, levB, bedOf, minmax, if_true]
  refine ⟨?_, ?_, ?_, ?_⟩ <;> (repeat' split) <;> omega
set_option maxHeartbeats 1000000

/-! hours, one after another -/
def scanLo (d : Int → TBounds) : Nat → Int → Int → Int → Int × Int
  | 0, _, lo, hr => (lo, hr)
  | n + 1, k, lo, hr => if (d k).Low < lo then scanLo d n (k + 1) (d k).Low k else scanLo d n (k + 1) lo hr
def scanHi (d : Int → TBounds) : Nat → Int → Int → Int
  | 0, _, hi => hi
  | n + 1, k, hi => scanHi d n (k + 1) (minmax true hi (d k).High)
theorem scanLo_le {d : Int → TBounds} (hd : ∀ k, 0 ≤ (d k).Low ∧ (d k).Low ≤ 10000) : ∀ (n : Nat) (k M hm : Int), 0 ≤ M → M ≤ 10000 → 0 ≤ (scanLo d n k M hm).1 ∧ (scanLo d n k M hm).1 ≤ 10000
  | 0, k, M, hm, a, b => ⟨a, b⟩
  | n + 1, k, M, hm, a, b => by
    have := hd k
    simp only [scanLo]
    split
    · exact scanLo_le hd n _ _ _ (by omega) (by omega)
    · exact scanLo_le hd n _ _ _ a b
theorem scanHi_le {d : Int → TBounds} (hd : ∀ k, 0 ≤ (d k).High ∧ (d k).High ≤ 10000) : ∀ (n : Nat) (k M : Int), 0 ≤ M → M ≤ 10000 → 0 ≤ scanHi d n k M ∧ scanHi d n k M ≤ 10000
  | 0, k, M, a, b => ⟨a, b⟩
  | n + 1, k, M, a, b => by
    have := hd k
    simp only [scanHi]
    refine scanHi_le hd n _ _ ?_ ?_ <;> simp only [minmax, if_true] <;> split <;> omega

/-! places and their reaches -/
def reachNo (r : TRiver) (place : Int) : Nat := match findGo place r.Shoals r.Reaches 0 0 with
  | some s => s.number_.toNat
  | none => 0
theorem Of_eq2 {r : TRiver} {place : Int} (hr : ∀ x ∈ r.Reaches, 0 ≤ x.Length ∧ x.Length ≤ 5000) (hl : r.Reaches.length ≤ 1000) (hp : inB place 0 (tot r.Reaches - 1) = true) :
    reachNo r place < r.Reaches.length ∧ F_thalwegref01_Of (r, place) = some (reachNo r place : Int) ∧ F_river_find (r, place) = some (⟨reachAt r (reachNo r place), (reachNo r place : Int), place, r.Shoals⟩, true) := by
  rw [inB_iff] at hp
  obtain ⟨j, hj, a1, a2⟩ := Of_eq hr hl hp.1 (by omega)
  rw [reachAt_eq hj] at a2
  have e : reachNo r place = j := by
    have a3 := a2
    rw [find_eq hr hl] at a3
    unfold reachNo
    cases hf : findGo place r.Shoals r.Reaches 0 0 with
    | none => rw [hf] at a3; simp at a3
    | some s => rw [hf] at a3; simp only [Option.some.injEq, Prod.mk.injEq, and_true] at a3; subst a3; simp
  rw [e]
  exact ⟨hj, a1, a2⟩
def dAt (r : TRiver) (s : List (List TBounds)) (place h : Int) : TBounds := depthOf r s (reachNo r place) place h
def cnt (p : TPass) : Nat := (p.Hours.High - p.Hours.Low + 1).toNat
def passLo (r : TRiver) (s : List (List TBounds)) (p : TPass) : Int × Int := scanLo (dAt r s p.Place) (cnt p) p.Hours.Low (dAt r s p.Place p.Hours.Low).Low p.Hours.Low
def passHi (r : TRiver) (s : List (List TBounds)) (p : TPass) : Int := scanHi (dAt r s p.Place) (cnt p) p.Hours.Low (dAt r s p.Place p.Hours.Low).High
/-- A pass that is as it should be. -/
structure PassOk (r : TRiver) (H : Nat) (p : TPass) : Prop where
  place : inB p.Place 0 (tot r.Reaches - 1) = true
  low : 0 ≤ p.Hours.Low
  le : p.Hours.Low ≤ p.Hours.High
  high : p.Hours.High < H
theorem passOk_of {r : TRiver} {H : Nat} {p : TPass} (h : passErr r H p = 0) : PassOk r H p := by
  unfold passErr at h
  split at h
  · next h1 =>
    split at h
    · next h2 =>
      simp only [vB, Bool.and_eq_true, inB_iff, decide_eq_true_eq] at h2
      exact ⟨h1, by omega, by omega, by omega⟩
    · cases h
  · cases h

section
variable {r : TRiver} {s : List (List TBounds)} {H : Nat}
theorem depthAt {p : TPass} (h : FcOk r s H) (hp : PassOk r H p) {k : Int} (h0 : 0 ≤ k) (h1 : k < H) :
    F_river_stream_depth (⟨r, flowsTo r s H s.length⟩, ⟨reachAt r (reachNo r p.Place), (reachNo r p.Place : Int), p.Place, r.Shoals⟩, k) = some (dAt r s p.Place k) := by
  obtain ⟨hr, hrl⟩ := h.lens
  obtain ⟨hj, _, _⟩ := Of_eq2 hr (show r.Reaches.length ≤ 1000 by omega) hp.place
  obtain ⟨kn, rfl⟩ := Int.eq_ofNat_of_zero_le h0
  exact streamDepth_eq h hj (by omega) p.Place
theorem pass_loop {p : TPass} (h : FcOk r s H) (hp : PassOk r H p) : ∀ (n : Nat) (l hr lo hi : Int), 0 ≤ l → l + n = cnt p →
    loopC (L_river_stream_passDepth_1 p ⟨r, flowsTo r s H s.length⟩ (⟨reachAt r (reachNo r p.Place), (reachNo r p.Place : Int), p.Place, r.Shoals⟩, true)).step (hr, l, lo, hi) =
      some ((scanLo (dAt r s p.Place) n (p.Hours.Low + l) lo hr).2, (scanLo (dAt r s p.Place) n (p.Hours.Low + l) lo hr).1, scanHi (dAt r s p.Place) n (p.Hours.Low + l) hi)
  | 0, l, hr, lo, hi, h0, hl => by
    have hm := h.most
    have h1 := hp.low
    have h2 := hp.le
    have h3 := hp.high
    have e : (cnt p : Int) = p.Hours.High - p.Hours.Low + 1 := by unfold cnt; omega
    have e2 : (L_river_stream_passDepth_1 p ⟨r, flowsTo r s H s.length⟩ (⟨reachAt r (reachNo r p.Place), (reachNo r p.Place : Int), p.Place, r.Shoals⟩, true)).step (hr, l, lo, hi) = some (.inr (hr, lo, hi)) := by
      simp only [L_river_stream_passDepth_1]
      rw [wr_in (n := p.Hours.High - p.Hours.Low) (by omega) (by omega), wr_in (n := p.Hours.High - p.Hours.Low + 1) (by omega) (by omega), decide_eq_false (by omega)]
      rfl
    rw [loopC_eq, e2]
    rfl
  | n + 1, l, hr, lo, hi, h0, hl => by
    have hm := h.most
    have h1 := hp.low
    have h2 := hp.le
    have h3 := hp.high
    have e : (cnt p : Int) = p.Hours.High - p.Hours.Low + 1 := by unfold cnt; omega
    have ih := fun hr lo hi => pass_loop h hp n (l + 1) hr lo hi (by omega) (by omega)
    have e2 : (L_river_stream_passDepth_1 p ⟨r, flowsTo r s H s.length⟩ (⟨reachAt r (reachNo r p.Place), (reachNo r p.Place : Int), p.Place, r.Shoals⟩, true)).step (hr, l, lo, hi) =
        some (.inl (if (dAt r s p.Place (p.Hours.Low + l)).Low < lo then (p.Hours.Low + l, l + 1, (dAt r s p.Place (p.Hours.Low + l)).Low, minmax true hi (dAt r s p.Place (p.Hours.Low + l)).High) else (hr, l + 1, lo, minmax true hi (dAt r s p.Place (p.Hours.Low + l)).High))) := by
      simp only [L_river_stream_passDepth_1]
      rw [wr_in (n := p.Hours.High - p.Hours.Low) (by omega) (by omega), wr_in (n := p.Hours.High - p.Hours.Low + 1) (by omega) (by omega), decide_eq_true (by omega), wr_in (n := p.Hours.Low + l) (by omega) (by omega), wr_in (n := l + 1) (by omega) (by omega), depthAt h hp (by omega) (by omega)]
      simp only [cond_true, Option.bind_some]
      by_cases c : (dAt r s p.Place (p.Hours.Low + l)).Low < lo
      · rw [decide_eq_true c, if_pos c]; rfl
      · rw [decide_eq_false c, if_neg c]; rfl
    rw [loopC_eq, e2]
    simp only [scanLo, scanHi]
    rw [show p.Hours.Low + l + 1 = p.Hours.Low + (l + 1) by omega]
    by_cases c : (dAt r s p.Place (p.Hours.Low + l)).Low < lo
    · rw [if_pos c, if_pos c]; exact ih _ _ _
    · rw [if_neg c, if_neg c]; exact ih _ _ _
theorem passDepth_eq {p : TPass} (h : FcOk r s H) (hp : PassOk r H p) : F_river_stream_passDepth (⟨r, flowsTo r s H s.length⟩, p) = some (⟨(passLo r s p).1, passHi r s p⟩, (passLo r s p).2) := by
  obtain ⟨hr, hrl⟩ := h.lens
  obtain ⟨hj, ho, hf⟩ := Of_eq2 hr (show r.Reaches.length ≤ 1000 by omega) hp.place
  have h1 := hp.low
  have h2 := hp.le
  have h3 := hp.high
  have hl := pass_loop h hp (cnt p) 0 p.Hours.Low (dAt r s p.Place p.Hours.Low).Low (dAt r s p.Place p.Hours.Low).High (by omega) (by omega)
  simp only [F_river_stream_passDepth, hf, Option.bind_some, depthAt h hp h1 (show p.Hours.Low < H by omega), hl, Int.add_zero]
  rfl

/-! all passes -/
def shGo (r : TRiver) (s : List (List TBounds)) : List TPass → Int → Int → Int → Int → Int → Int × Int × Int × Int
  | [], _, h, lo, hi, p => (p, h, lo, hi)
  | x :: l, i, h, lo, hi, p => if (passLo r s x).1 < lo then shGo r s l (i + 1) (passLo r s x).2 (passLo r s x).1 (minmax false hi (passHi r s x)) i else shGo r s l (i + 1) h lo (minmax false hi (passHi r s x)) p
theorem short_loop (h : FcOk r s H) (e0 : Int) (way : List TPass) : ∀ (m : List TPass) (k : Nat) (hr lo hi p : Int), way.drop k = m → (∀ x ∈ m, PassOk r H x) → k + m.length ≤ 1000000 →
    loopC (L_river_Shallowest_1 (⟨r, flowsTo r s H s.length⟩, e0) way).step (hr, (k : Int), lo, hi, p) = some (shGo r s m k hr lo hi p)
  | [], k, hr, lo, hi, p, hd, _, _ => by
    have := drop_nil hd
    have e : (L_river_Shallowest_1 (⟨r, flowsTo r s H s.length⟩, e0) way).step (hr, (k : Int), lo, hi, p) = some (.inr (p, hr, lo, hi)) := by
      simp only [L_river_Shallowest_1, decide_eq_false (show ¬ (k : Int) < (way.length : Int) by omega), cond_false]
    rw [loopC_eq, e]
    rfl
  | x :: m, k, hr, lo, hi, p, hd, hx, hk => by
    obtain ⟨hlt, hg, hd'⟩ := drop_cons hd
    simp only [List.length_cons] at hk
    have ih := fun hr lo hi p => short_loop h e0 way m (k + 1) hr lo hi p hd' (fun y hy => hx y (by simp [hy])) (by omega)
    have e : (L_river_Shallowest_1 (⟨r, flowsTo r s H s.length⟩, e0) way).step (hr, (k : Int), lo, hi, p) =
        some (.inl (if (passLo r s x).1 < lo then ((passLo r s x).2, ((k + 1 : Nat) : Int), (passLo r s x).1, minmax false hi (passHi r s x), (k : Int)) else (hr, ((k + 1 : Nat) : Int), lo, minmax false hi (passHi r s x), p))) := by
      simp only [L_river_Shallowest_1, decide_eq_true (show (k : Int) < (way.length : Int) by omega), cond_true, idx?_nat hlt, Option.bind_some, hg, passDepth_eq h (hx x (by simp))]
      rw [wr_nat (by omega)]
      by_cases c : (passLo r s x).1 < lo
      · rw [decide_eq_true c, if_pos c]; rfl
      · rw [decide_eq_false c, if_neg c]; rfl
    rw [loopC_eq, e, shGo, show ((k : Int) + 1) = ((k + 1 : Nat) : Int) by omega]
    by_cases c : (passLo r s x).1 < lo
    · rw [if_pos c, if_pos c]; exact ih _ _ _ _
    · rw [if_neg c, if_neg c]; exact ih _ _ _ _
theorem dAt_le (h : FcOk r s H) {p : TPass} (hp : PassOk r H p) (k : Int) : 0 ≤ (dAt r s p.Place k).Low ∧ (dAt r s p.Place k).Low ≤ 10000 ∧ 0 ≤ (dAt r s p.Place k).High ∧ (dAt r s p.Place k).High ≤ 10000 := by
  obtain ⟨hr, hrl⟩ := h.lens
  obtain ⟨hj, _, _⟩ := Of_eq2 hr (show r.Reaches.length ≤ 1000 by omega) hp.place
  exact depth_le h.river hj
/-- Where the start does not matter. -/
theorem shGo_start (h : FcOk r s H) {way : List TPass} (hw : ∀ x ∈ way, PassOk r H x) (hn : way ≠ []) (i : Int) : shGo r s way i 0 9223372036854775807 9223372036854775807 0 = shGo r s way i 0 1000000 1000000 0 := by
  match way, hn, hw with
  | x :: m, _, hw =>
    have hp := hw x (by simp)
    have hd := dAt_le h hp
    have h1 := scanLo_le (fun k => ⟨(hd k).1, (hd k).2.1⟩) (cnt x) x.Hours.Low (dAt r s x.Place x.Hours.Low).Low x.Hours.Low (hd _).1 (hd _).2.1
    have h2 := scanHi_le (fun k => ⟨(hd k).2.2.1, (hd k).2.2.2⟩) (cnt x) x.Hours.Low (dAt r s x.Place x.Hours.Low).High (hd _).2.2.1 (hd _).2.2.2
    have h1 : 0 ≤ (passLo r s x).1 ∧ (passLo r s x).1 ≤ 10000 := h1
    have h2 : 0 ≤ passHi r s x ∧ passHi r s x ≤ 10000 := h2
    simp only [shGo]
    rw [if_pos (by omega), if_pos (by omega)]
    have e1 : minmax false 9223372036854775807 (passHi r s x) = passHi r s x := by simp only [minmax]; split <;> (try split) <;> simp_all <;> omega
    have e2 : minmax false 1000000 (passHi r s x) = passHi r s x := by simp only [minmax]; split <;> (try split) <;> simp_all <;> omega
    rw [e1, e2]
end
set_option maxHeartbeats 1000000

theorem wayGo_all {r : TRiver} {H : Nat} : ∀ {l : List TPass}, wayGo r H l = 0 → ∀ p ∈ l, PassOk r H p
  | [], _, p, hp => by cases hp
  | x :: l, h, p, hp => by
    rw [wayGo] at h
    by_cases c : passErr r H x = 0
    · rw [if_pos c] at h
      rcases List.mem_cons.1 hp with rfl | hp
      · exact passOk_of c
      · exact wayGo_all h p hp
    · rw [if_neg c] at h
      exact absurd h c
theorem wayErr_ok {r : TRiver} {H : Nat} {l : List TPass} (h : wayErr r H l = 0) : l ≠ [] ∧ ∀ p ∈ l, PassOk r H p := by
  unfold wayErr at h
  split at h
  · cases h
  · next h0 =>
    split at h
    · cases h
    · exact ⟨fun e => h0 (by rw [e]; rfl), wayGo_all h⟩
def leastOf (r : TRiver) (s : List (List TBounds)) (way : List TPass) : Int × Int × Int × Int := shGo r s way 0 0 1000000 1000000 0
theorem Shallowest_eq {r : TRiver} {s : List (List TBounds)} {H : Nat} (h : FcOk r s H) (hz : startErr r s = 0) (hs : ∀ x ∈ s, x.length ≤ 1000000) {way : List TPass} (hw : way.length ≤ 1000) :
    F_river_Shallowest (r, s, way) = some (if wayErr r H way = 0 then (⟨(leastOf r s way).2.2.1, (leastOf r s way).2.2.2⟩, (leastOf r s way).1, (leastOf r s way).2.1, 0) else (⟨0, 0⟩, 0, 0, wayErr r H way)) := by
  obtain ⟨hr, hrl⟩ := h.lens
  have hm := h.most
  have hln := h.len
  have hb := h.bounds
  have hp := h.pos
  have hhr : F_river_stream_hours ⟨r, flowsTo r s H s.length⟩ = some (H : Int) := by
    simp only [F_river_stream_hours]
    rw [show (0 : Int) = ((0 : Nat) : Int) from rfl, idx?_nat (by rw [flowsTo_length]; omega), flowsTo_get]
    simp only [Option.bind_some, rowOf_length]
  have hcw := checkWay_eq (r := r) (way := way) (show H ≤ 1000 by omega) hr (show r.Reaches.length ≤ 1000 by omega) hhr hw
  simp only [F_river_Shallowest, run_eq h hz hs, Option.bind_some, bne_self_eq_false, cond_false, hcw]
  by_cases c : wayErr r H way = 0
  · obtain ⟨w1, w2⟩ := wayErr_ok c
    have hloop : loopC (L_river_Shallowest_1 (⟨r, flowsTo r s H s.length⟩, 0) way).step (0, 0, 9223372036854775807, 9223372036854775807, 0) = some (leastOf r s way) := by
      have := short_loop h 0 way way 0 0 9223372036854775807 9223372036854775807 0 rfl w2 (by omega)
      rw [show (((0 : Nat) : Int)) = 0 from rfl, shGo_start h w2 w1] at this
      exact this
    rw [if_pos c, c]
    simp only [bne_self_eq_false, cond_false, hloop, Option.bind_some]
  · rw [if_neg c, show (wayErr r H way != 0) = true by simpa using c]
    rfl
set_option maxHeartbeats 1000000

theorem scanLo_spec (d : Int → TBounds) : ∀ (n : Nat) (k M hm : Int),
    (scanLo d n k M hm = (M, hm) ∧ ∀ x, k ≤ x → x < k + n → M ≤ (d x).Low) ∨
    (k ≤ (scanLo d n k M hm).2 ∧ (scanLo d n k M hm).2 < k + n ∧ (d (scanLo d n k M hm).2).Low = (scanLo d n k M hm).1 ∧ (scanLo d n k M hm).1 < M ∧
      (∀ x, k ≤ x → x < k + n → (scanLo d n k M hm).1 ≤ (d x).Low) ∧ ∀ x, k ≤ x → x < (scanLo d n k M hm).2 → (scanLo d n k M hm).1 < (d x).Low)
  | 0, k, M, hm => .inl ⟨rfl, fun x _ _ => by omega⟩
  | n + 1, k, M, hm => by
    simp only [scanLo]
    by_cases c : (d k).Low < M
    · rw [if_pos c]
      refine .inr ?_
      rcases scanLo_spec d n (k + 1) (d k).Low k with ⟨e, h⟩ | ⟨h1, h2, h3, h4, h5, h6⟩
      · rw [e]
        refine ⟨by simp, by simp; omega, rfl, c, fun x h0 h1 => ?_, fun x h0 h1 => ?_⟩
        · by_cases hx : x = k
          · subst hx; simp
          · exact h x (by omega) (by omega)
        · simp only at h1; omega
      · refine ⟨by omega, by omega, h3, by omega, fun x h0 h1 => ?_, fun x h0 h1 => ?_⟩
        · by_cases hx : x = k
          · subst hx; omega
          · exact h5 x (by omega) (by omega)
        · by_cases hx : x = k
          · subst hx; exact h4
          · exact h6 x (by omega) (by omega)
    · rw [if_neg c]
      rcases scanLo_spec d n (k + 1) M hm with ⟨e, h⟩ | ⟨h1, h2, h3, h4, h5, h6⟩
      · refine .inl ⟨e, fun x h0 h1 => ?_⟩
        by_cases hx : x = k
        · subst hx; omega
        · exact h x (by omega) (by omega)
      · refine .inr ⟨by omega, by omega, h3, h4, fun x h0 h1 => ?_, fun x h0 h1 => ?_⟩
        · by_cases hx : x = k
          · subst hx; omega
          · exact h5 x (by omega) (by omega)
        · by_cases hx : x = k
          · subst hx; omega
          · exact h6 x (by omega) (by omega)
theorem scanHi_spec (d : Int → TBounds) : ∀ (n : Nat) (k M : Int), M ≤ scanHi d n k M ∧ (∀ x, k ≤ x → x < k + n → (d x).High ≤ scanHi d n k M) ∧ (scanHi d n k M = M ∨ ∃ x, k ≤ x ∧ x < k + n ∧ scanHi d n k M = (d x).High)
  | 0, k, M => ⟨Int.le_refl _, fun x _ _ => by omega, .inl rfl⟩
  | n + 1, k, M => by
    obtain ⟨h1, h2, h3⟩ := scanHi_spec d n (k + 1) (minmax true M (d k).High)
    have hm : M ≤ minmax true M (d k).High ∧ (d k).High ≤ minmax true M (d k).High ∧ (minmax true M (d k).High = M ∨ minmax true M (d k).High = (d k).High) := by
      simp only [minmax, if_true]
      split <;> omega
    simp only [scanHi]
    refine ⟨by omega, fun x h0 h4 => ?_, ?_⟩
    · by_cases hx : x = k
      · subst hx; omega
      · exact h2 x (by omega) (by omega)
    · rcases h3 with h3 | ⟨x, a, b, e⟩
      · rcases hm.2.2 with hm | hm
        · exact .inl (h3.trans hm)
        · exact .inr ⟨k, by omega, by omega, h3.trans hm⟩
      · exact .inr ⟨x, by omega, by omega, e⟩

section
variable {r : TRiver} {s : List (List TBounds)} {H : Nat}
theorem passLo_spec {p : TPass} (hp : PassOk r H p) : p.Hours.Low ≤ (passLo r s p).2 ∧ (passLo r s p).2 ≤ p.Hours.High ∧ (dAt r s p.Place (passLo r s p).2).Low = (passLo r s p).1 ∧
    (∀ x, p.Hours.Low ≤ x → x ≤ p.Hours.High → (passLo r s p).1 ≤ (dAt r s p.Place x).Low) ∧ ∀ x, p.Hours.Low ≤ x → x < (passLo r s p).2 → (passLo r s p).1 < (dAt r s p.Place x).Low := by
  have h1 := hp.le
  have e : (cnt p : Int) = p.Hours.High - p.Hours.Low + 1 := by unfold cnt; omega
  rcases scanLo_spec (dAt r s p.Place) (cnt p) p.Hours.Low (dAt r s p.Place p.Hours.Low).Low p.Hours.Low with ⟨q, h⟩ | ⟨h1, h2, h3, h4, h5, h6⟩
  · have q : passLo r s p = _ := q
    rw [q]
    exact ⟨Int.le_refl _, hp.le, rfl, fun x a b => h x a (by omega), fun x a b => by simp only at b; omega⟩
  · exact ⟨h1, by unfold passLo; omega, h3, fun x a b => h5 x a (by omega), h6⟩
theorem passHi_spec {p : TPass} (hp : PassOk r H p) : (∀ x, p.Hours.Low ≤ x → x ≤ p.Hours.High → (dAt r s p.Place x).High ≤ passHi r s p) ∧ ∃ x, p.Hours.Low ≤ x ∧ x ≤ p.Hours.High ∧ passHi r s p = (dAt r s p.Place x).High := by
  have h1 := hp.le
  have e : (cnt p : Int) = p.Hours.High - p.Hours.Low + 1 := by unfold cnt; omega
  obtain ⟨a, b, c⟩ := scanHi_spec (dAt r s p.Place) (cnt p) p.Hours.Low (dAt r s p.Place p.Hours.Low).High
  refine ⟨fun x h0 h2 => b x h0 (by omega), ?_⟩
  rcases c with c | ⟨x, h0, h2, h3⟩
  · exact ⟨p.Hours.Low, Int.le_refl _, hp.le, c⟩
  · exact ⟨x, h0, by omega, h3⟩
theorem shGo_lo : ∀ (l : List TPass) (i h lo hi p : Int),
    ((shGo r s l i h lo hi p).1 = p ∧ (shGo r s l i h lo hi p).2.1 = h ∧ (shGo r s l i h lo hi p).2.2.1 = lo ∧ ∀ x ∈ l, lo ≤ (passLo r s x).1) ∨
    (∃ (m : Nat) (hm : m < l.length), (shGo r s l i h lo hi p).1 = i + m ∧ (shGo r s l i h lo hi p).2.1 = (passLo r s l[m]).2 ∧ (shGo r s l i h lo hi p).2.2.1 = (passLo r s l[m]).1 ∧ (shGo r s l i h lo hi p).2.2.1 < lo ∧
      (∀ x ∈ l, (shGo r s l i h lo hi p).2.2.1 ≤ (passLo r s x).1) ∧ ∀ (n : Nat) (hn : n < l.length), n < m → (shGo r s l i h lo hi p).2.2.1 < (passLo r s l[n]).1)
  | [], i, h, lo, hi, p => .inl ⟨rfl, rfl, rfl, fun x hx => by cases hx⟩
  | y :: l, i, h, lo, hi, p => by
    simp only [shGo]
    by_cases c : (passLo r s y).1 < lo
    · rw [if_pos c]
      refine .inr ?_
      rcases shGo_lo l (i + 1) (passLo r s y).2 (passLo r s y).1 (minmax false hi (passHi r s y)) i with ⟨h1, h2, h3, h4⟩ | ⟨m, hm, h1, h2, h3, h4, h5, h6⟩
      · refine ⟨0, by simp, by rw [h1]; simp, h2, h3, by rw [h3]; exact c, fun x hx => ?_, fun n hn h0 => by omega⟩
        rw [h3]
        rcases List.mem_cons.1 hx with rfl | hx
        · exact Int.le_refl _
        · exact h4 x hx
      · refine ⟨m + 1, by simp; omega, by rw [h1]; omega, by simpa using h2, by simpa using h3, by omega, fun x hx => ?_, fun n hn h0 => ?_⟩
        · rcases List.mem_cons.1 hx with rfl | hx
          · omega
          · exact h5 x hx
        · cases n with
          | zero => simpa using h4
          | succ n => exact h6 n (by simpa using hn) (by omega)
    · rw [if_neg c]
      rcases shGo_lo l (i + 1) h lo (minmax false hi (passHi r s y)) p with ⟨h1, h2, h3, h4⟩ | ⟨m, hm, h1, h2, h3, h4, h5, h6⟩
      · refine .inl ⟨h1, h2, h3, fun x hx => ?_⟩
        rcases List.mem_cons.1 hx with rfl | hx
        · omega
        · exact h4 x hx
      · refine .inr ⟨m + 1, by simp; omega, by rw [h1]; omega, by simpa using h2, by simpa using h3, h4, fun x hx => ?_, fun n hn h0 => ?_⟩
        · rcases List.mem_cons.1 hx with rfl | hx
          · omega
          · exact h5 x hx
        · cases n with
          | zero => simp only [List.getElem_cons_zero]; omega
          | succ n => exact h6 n (by simpa using hn) (by omega)
theorem shGo_hi : ∀ (l : List TPass) (i h lo hi p : Int), (shGo r s l i h lo hi p).2.2.2 ≤ hi ∧ (∀ x ∈ l, (shGo r s l i h lo hi p).2.2.2 ≤ passHi r s x) ∧ ((shGo r s l i h lo hi p).2.2.2 = hi ∨ ∃ x ∈ l, (shGo r s l i h lo hi p).2.2.2 = passHi r s x)
  | [], i, h, lo, hi, p => ⟨Int.le_refl _, fun x hx => (by cases hx), .inl rfl⟩
  | y :: l, i, h, lo, hi, p => by
    have hm : minmax false hi (passHi r s y) ≤ hi ∧ minmax false hi (passHi r s y) ≤ passHi r s y ∧ (minmax false hi (passHi r s y) = hi ∨ minmax false hi (passHi r s y) = passHi r s y) := by
      simp only [minmax, Bool.false_eq_true, if_false]
      split <;> omega
    have key : ∀ i' h' lo' p', (shGo r s l i' h' lo' (minmax false hi (passHi r s y)) p').2.2.2 ≤ hi ∧ (∀ x ∈ y :: l, (shGo r s l i' h' lo' (minmax false hi (passHi r s y)) p').2.2.2 ≤ passHi r s x) ∧ ((shGo r s l i' h' lo' (minmax false hi (passHi r s y)) p').2.2.2 = hi ∨ ∃ x ∈ y :: l, (shGo r s l i' h' lo' (minmax false hi (passHi r s y)) p').2.2.2 = passHi r s x) := by
      intro i' h' lo' p'
      obtain ⟨h1, h2, h3⟩ := shGo_hi l i' h' lo' (minmax false hi (passHi r s y)) p'
      refine ⟨by omega, fun x hx => ?_, ?_⟩
      · rcases List.mem_cons.1 hx with rfl | hx
        · omega
        · exact h2 x hx
      · rcases h3 with h3 | ⟨x, hx, e⟩
        · rcases hm.2.2 with hm | hm
          · exact .inl (h3.trans hm)
          · exact .inr ⟨y, by simp, h3.trans hm⟩
        · exact .inr ⟨x, by simp [hx], e⟩
    simp only [shGo]
    split
    · exact key _ _ _ _
    · exact key _ _ _ _

/-- The least depth, and where and when it is. -/
structure Least (r : TRiver) (s : List (List TBounds)) (way : List TPass) (R : Int × Int × Int × Int) (m : Nat) : Prop where
  lt : m < way.length
  pass : R.1 = m
  hour : R.2.1 = (passLo r s way[m]).2
  lo : R.2.2.1 = (passLo r s way[m]).1
  all : ∀ x ∈ way, R.2.2.1 ≤ (passLo r s x).1
  first : ∀ (n : Nat) (hn : n < way.length), n < m → R.2.2.1 < (passLo r s way[n]).1
  hi : ∀ x ∈ way, R.2.2.2 ≤ passHi r s x
  some : ∃ x ∈ way, R.2.2.2 = passHi r s x
theorem passLo_small (h : FcOk r s H) {p : TPass} (hp : PassOk r H p) : 0 ≤ (passLo r s p).1 ∧ (passLo r s p).1 ≤ 10000 := by
  have hd := dAt_le h hp
  exact scanLo_le (fun k => ⟨(hd k).1, (hd k).2.1⟩) (cnt p) p.Hours.Low _ _ (hd _).1 (hd _).2.1
theorem passHi_small (h : FcOk r s H) {p : TPass} (hp : PassOk r H p) : 0 ≤ passHi r s p ∧ passHi r s p ≤ 10000 := by
  have hd := dAt_le h hp
  exact scanHi_le (fun k => ⟨(hd k).2.2.1, (hd k).2.2.2⟩) (cnt p) p.Hours.Low _ (hd _).2.2.1 (hd _).2.2.2
theorem least_of (h : FcOk r s H) {way : List TPass} (hw : ∀ x ∈ way, PassOk r H x) (hn : way ≠ []) : ∃ m, Least r s way (leastOf r s way) m := by
  obtain ⟨x0, hx0⟩ := List.exists_mem_of_ne_nil way hn
  have hs0 := passLo_small h (hw x0 hx0)
  have hh0 := passHi_small h (hw x0 hx0)
  obtain ⟨a1, a2, a3⟩ := shGo_hi (r := r) (s := s) way 0 0 1000000 1000000 0
  rcases shGo_lo (r := r) (s := s) way 0 0 1000000 1000000 0 with ⟨_, _, _, h4⟩ | ⟨m, hm, h1, h2, h3, h4, h5, h6⟩
  · have := h4 x0 hx0; omega
  · refine ⟨m, hm, by show (shGo r s way 0 0 1000000 1000000 0).1 = _; rw [h1]; omega, h2, h3, h5, h6, a2, ?_⟩
    rcases a3 with a3 | a3
    · have := a2 x0 hx0; rw [a3] at this; omega
    · exact a3

/-! Low is not above High -/
theorem levels_le {l : List TRateRow} (h : (pairs l).all pairOk = true) {a b : Nat} (hab : a ≤ b) (hb : b < l.length) : l[a].Level ≤ l[b].Level := by
  induction b with
  | zero => have : a = 0 := by omega
            subst this; exact Int.le_refl _
  | succ b ih =>
    by_cases c : a = b + 1
    · subst c; exact Int.le_refl _
    · have h1 := ih (by omega) (by omega)
      have h2 := levels_up h (a := b) (by omega)
      omega
theorem level_upper {l : List TRateRow} {n : Int} {up : Bool} (hc : curveOk l = true) (c : firstAt l n < l.length) : levelOf l n up ≤ l[firstAt l n].Level := by
  simp only [curveOk, Bool.and_eq_true, inB_iff] at hc
  obtain ⟨hl, hps, hrs⟩ := hc
  have ci : firstAt l n - 1 < l.length := by omega
  simp only [levelOf, List.getElem?_eq_getElem c, List.getElem?_eq_getElem ci]
  by_cases c0 : firstAt l n = 0
  · rw [if_pos c0]; exact Int.le_refl _
  · rw [if_neg c0]
    have f1 := first_lt (n := n) (show firstAt l n - 1 < firstAt l n by omega) ci
    have f2 := first_at c
    have lv := levels_up hps (a := firstAt l n - 1) (by omega)
    simp only [show firstAt l n - 1 + 1 = firstAt l n by omega] at lv
    have hd := part_le (dy := l[firstAt l n].Level - l[firstAt l n - 1].Level) (t := n - l[firstAt l n - 1].Flow) (dF := l[firstAt l n].Flow - l[firstAt l n - 1].Flow) (by omega) (by omega) (by omega) (by omega) up
    omega
theorem level_lower {l : List TRateRow} {n : Int} {up : Bool} (hc : curveOk l = true) (c0 : firstAt l n ≠ 0) (ci : firstAt l n - 1 < l.length) : l[firstAt l n - 1].Level ≤ levelOf l n up := by
  simp only [curveOk, Bool.and_eq_true, inB_iff] at hc
  obtain ⟨hl, hps, hrs⟩ := hc
  have hle := first_le l n
  by_cases c : firstAt l n < l.length
  · simp only [levelOf, List.getElem?_eq_getElem c, List.getElem?_eq_getElem ci]
    rw [if_neg c0]
    have f1 := first_lt (n := n) (show firstAt l n - 1 < firstAt l n by omega) ci
    have f2 := first_at c
    have lv := levels_up hps (a := firstAt l n - 1) (by omega)
    simp only [show firstAt l n - 1 + 1 = firstAt l n by omega] at lv
    have hd := part_le (dy := l[firstAt l n].Level - l[firstAt l n - 1].Level) (t := n - l[firstAt l n - 1].Flow) (dF := l[firstAt l n].Flow - l[firstAt l n - 1].Flow) (by omega) (by omega) (by omega) (by omega) up
    omega
  · have ce : l[firstAt l n]? = none := List.getElem?_eq_none (by omega)
    simp only [levelOf, ce, List.getElem?_eq_getElem ci]
    exact Int.le_refl _
theorem level_mono {l : List TRateRow} {n n' : Int} (hc : curveOk l = true) (hn : n ≤ n') : levelOf l n false ≤ levelOf l n' true := by
  have hc' := hc
  simp only [curveOk, Bool.and_eq_true, inB_iff] at hc'
  obtain ⟨hl, hps, hrs⟩ := hc'
  have hle := first_le l n
  have hle' := first_le l n'
  have hi : firstAt l n ≤ firstAt l n' := by
    by_cases c : firstAt l n' < firstAt l n
    · have a := first_lt c (by omega)
      have b := first_at (l := l) (n := n') (by omega)
      omega
    · omega
  by_cases c : firstAt l n = firstAt l n'
  · by_cases c1 : firstAt l n < l.length
    · by_cases c0 : firstAt l n = 0
      · have ci : firstAt l n - 1 < l.length := by omega
        simp only [levelOf, ← c, List.getElem?_eq_getElem c1, List.getElem?_eq_getElem ci]
        rw [if_pos c0, if_pos c0]
        exact Int.le_refl _
      · have ci : firstAt l n - 1 < l.length := by omega
        simp only [levelOf, ← c, List.getElem?_eq_getElem c1, List.getElem?_eq_getElem ci]
        rw [if_neg c0, if_neg c0]
        have f1 := first_lt (n := n) (show firstAt l n - 1 < firstAt l n by omega) ci
        have f2 := first_at c1
        have lv := levels_up hps (a := firstAt l n - 1) (by omega)
        simp only [show firstAt l n - 1 + 1 = firstAt l n by omega] at lv
        have hF : 0 < l[firstAt l n].Flow - l[firstAt l n - 1].Flow := by omega
        have hm : (l[firstAt l n].Level - l[firstAt l n - 1].Level) * (n - l[firstAt l n - 1].Flow) ≤ (l[firstAt l n].Level - l[firstAt l n - 1].Level) * (n' - l[firstAt l n - 1].Flow) := Int.mul_le_mul_of_nonneg_left (by omega) (by omega)
        generalize (l[firstAt l n].Level - l[firstAt l n - 1].Level) * (n - l[firstAt l n - 1].Flow) = u at hm ⊢
        generalize (l[firstAt l n].Level - l[firstAt l n - 1].Level) * (n' - l[firstAt l n - 1].Flow) = v at hm ⊢
        generalize l[firstAt l n].Flow - l[firstAt l n - 1].Flow = w at hF ⊢
        simp only [divB, Bool.false_eq_true, if_false, if_true]
        have e1 : u / w ≤ v / w := Int.ediv_le_ediv hF hm
        have e2 : v / w ≤ -((-v) / w) := by
          have a1 := Int.mul_ediv_add_emod v w
          have a2 := Int.mul_ediv_add_emod (-v) w
          have b1 := Int.emod_nonneg v (show w ≠ 0 by omega)
          have b2 := Int.emod_nonneg (-v) (show w ≠ 0 by omega)
          have : w * (v / w + (-v) / w) ≤ 0 := by rw [Int.mul_add]; omega
          have : v / w + (-v) / w ≤ 0 := by
            rcases Int.lt_or_le 0 (v / w + (-v) / w) with h | h
            · have := Int.mul_pos hF h; omega
            · exact h
          omega
        omega
    · have ce : firstAt l n = l.length := by omega
      have ci : l.length - 1 < l.length := by omega
      simp only [levelOf, ← c, ce, List.getElem?_eq_none (Nat.le_refl l.length), List.getElem?_eq_getElem ci]
      exact Int.le_refl _
  · have h1 := level_upper (n := n) (up := false) hc (by omega)
    have h2 := level_lower (n := n') (up := true) hc (by omega) (by omega)
    have h3 := levels_le hps (a := firstAt l n) (b := firstAt l n' - 1) (by omega) (by omega)
    omega
theorem shoal_ord {x : TShoal} (hb : x.Bed.Low ≤ x.Bed.High) (hg : x.Grow.Low ≤ x.Grow.High) (h : Int) : shoalLo x h ≤ shoalHi x h := by
  have h0 : 0 ≤ minmax true 0 (h - x.Sounded) := by simp only [minmax, if_true]; split <;> omega
  have hm := Int.mul_le_mul_of_nonneg_right hg h0
  unfold shoalLo shoalHi
  omega
theorem bedGo_ord {place h : Int} : ∀ {l : List TShoal} {a b : Int}, (∀ x ∈ l, x.Bed.Low ≤ x.Bed.High ∧ x.Grow.Low ≤ x.Grow.High) → a ≤ b → (bedGo place h l a b).1 ≤ (bedGo place h l a b).2
  | [], a, b, _, hab => hab
  | x :: l, a, b, hx, hab => by
    have ho := shoal_ord (hx x (by simp)).1 (hx x (by simp)).2 h
    simp only [bedGo]
    split
    · refine bedGo_ord (fun y hy => hx y (by simp [hy])) ?_
      simp only [minmax, if_true]
      split <;> split <;> omega
    · exact bedGo_ord (fun y hy => hx y (by simp [hy])) hab
theorem dAt_ord (h : FcOk r s H) {p : TPass} (hp : PassOk r H p) {k : Int} (h0 : 0 ≤ k) (h1 : k < H) : (dAt r s p.Place k).Low ≤ (dAt r s p.Place k).High := by
  obtain ⟨hr, hrl⟩ := h.lens
  obtain ⟨hj, _, _⟩ := Of_eq2 hr (show r.Reaches.length ≤ 1000 by omega) hp.place
  obtain ⟨kn, rfl⟩ := Int.eq_ofNat_of_zero_le h0
  have hk := h.bounds.2.2 _ hj
  have hf := h.flow_upTo (reachNo r p.Place) kn hj
  have hl := level_mono (reachOk_curve hk) hf.2.1
  have hriv := h.river
  simp only [riverOk, Bool.and_eq_true, inB_iff, List.all_eq_true, decide_eq_true_eq] at hriv
  have hsh : ∀ x ∈ r.Shoals, x.Bed.Low ≤ x.Bed.High ∧ x.Grow.Low ≤ x.Grow.High := by
    intro x hx
    have := hriv.2.2.2 x hx
    simp only [shoalOk, vB, Bool.and_eq_true, inB_iff, decide_eq_true_eq] at this
    omega
  have hb : (reachAt r (reachNo r p.Place)).Bottom.Low ≤ (reachAt r (reachNo r p.Place)).Bottom.High := by
    simp only [reachOk, vB, Bool.and_eq_true, inB_iff, decide_eq_true_eq] at hk
    omega
  have ho := bedGo_ord (place := p.Place) (h := (kn : Int)) hsh hb
  simp only [dAt, depthOf, levAt, levB, bedOf, minmax, if_true]
  (repeat' split) <;> omega
theorem least_ord (h : FcOk r s H) {way : List TPass} (hw : ∀ x ∈ way, PassOk r H x) {R : Int × Int × Int × Int} {m : Nat} (hl : Least r s way R m) : 0 ≤ R.2.2.1 ∧ R.2.2.1 ≤ R.2.2.2 := by
  obtain ⟨x, hx, e⟩ := hl.some
  have hp := hw x hx
  obtain ⟨k, k0, k1, e2⟩ := (passHi_spec (s := s) hp).2
  have a := hl.all x hx
  have b := (passLo_spec (s := s) hp).2.2.2.1 k k0 k1
  have c := dAt_ord h hp (k := k) (by have := hp.low; omega) (by have := hp.high; omega)
  have d := passLo_small h (hw _ (List.getElem_mem hl.lt))
  have f := hl.lo
  omega
end
set_option maxHeartbeats 1000000

section
variable {r : TRiver} {s : List (List TBounds)} {H : Nat}
theorem DepthAt (h : FcOk r s H) (hz : startErr r s = 0) (hs : ∀ x ∈ s, x.length ≤ 1000000) {p : TPass} (hp : PassOk r H p) {k : Int} (h0 : 0 ≤ k) (h1 : k < H) : F_river_Depth (r, s, p.Place, k) = some (dAt r s p.Place k, 0) := by
  obtain ⟨hr, hrl⟩ := h.lens
  obtain ⟨_, _, d3⟩ := Depth_eq h hz hs p.Place k
  obtain ⟨j, hj, ho, hd⟩ := d3 hp.place (by rw [inB_iff]; omega)
  obtain ⟨_, ho2, _⟩ := Of_eq2 hr (show r.Reaches.length ≤ 1000 by omega) hp.place
  rw [ho2] at ho
  have : (reachNo r p.Place : Int) = j := Option.some.inj ho
  have : reachNo r p.Place = j := by omega
  subst this
  exact hd

end
end Go.Ev
/- Chapter 1: flows and levels are what the reference says. -/
set_option linter.unusedVariables false
set_option linter.unusedSimpArgs false
namespace Go.Ev
set_option maxHeartbeats 2000000
theorem known_eq : F_thalweglaw01_known () = some true := rfl
theorem hours_eq {r : TRiver} {s : List (List TBounds)} {H : Nat} (h : FcOk r s H) : F_river_stream_hours ⟨r, flowsTo r s H s.length⟩ = some (H : Int) := by
  have hb := h.bounds
  have hln := h.len
  simp only [F_river_stream_hours]
  rw [show idx? (flowsTo r s H s.length) 0 = some (rowOf r s H 0) by
    have := idx?_nat (l := flowsTo r s H s.length) (k := 0) (by rw [flowsTo_length]; omega)
    rw [flowsTo_get] at this; exact this]
  simp [rowOf_length]
theorem streamLevel_eq {r : TRiver} {s : List (List TBounds)} {H : Nat} (h : FcOk r s H) {j kn : Nat} (hj : j < r.Reaches.length) (hk : kn < H) : F_river_stream_level (⟨r, flowsTo r s H s.length⟩, (j : Int), (kn : Int)) = some (levAt r s j (kn : Int)) := by
  have hb := h.bounds
  have hln := h.len
  simp only [F_river_stream_level, idx?_nat hj, Option.bind_some]
  rw [idx?_nat (by rw [flowsTo_length]; omega), flowsTo_get]
  simp only [Option.bind_some]
  rw [idx?_nat (by rw [rowOf_length]; omega), rowOf_get]
  simp only [Option.bind_some]
  rw [reachAt_eq hj, levelAt_eq (reachOk_curve (hb.2.2 j hj))]
  rfl
def levRow (r : TRiver) (s : List (List TBounds)) (H i : Nat) : List TBounds := (List.range H).map fun (k : Nat) => levAt r s i (k : Int)
def levsTo (r : TRiver) (s : List (List TBounds)) (H n : Nat) : List (List TBounds) := (List.range n).map fun i => levRow r s H i
theorem levRow_length (r : TRiver) (s : List (List TBounds)) (H i : Nat) : (levRow r s H i).length = H := by simp [levRow]
theorem levRow_get (r : TRiver) (s : List (List TBounds)) (H i k : Nat) (h : k < (levRow r s H i).length) : (levRow r s H i)[k] = levAt r s i (k : Int) := by simp [levRow]
theorem levsTo_length (r : TRiver) (s : List (List TBounds)) (H n : Nat) : (levsTo r s H n).length = n := by simp [levsTo]
theorem levsTo_get (r : TRiver) (s : List (List TBounds)) (H n i : Nat) (h : i < (levsTo r s H n).length) : (levsTo r s H n)[i] = levRow r s H i := by simp [levsTo]
theorem lev_loop1 {r : TRiver} {s : List (List TBounds)} {H : Nat} (h : FcOk r s H) {l2 X : List (List TBounds)} {e : Int} {i : Nat} (hi : i < r.Reaches.length) (hX : i < X.length) (h0 : X[i] = []) :
    loopC (L_river_Levels_1 l2 (i : Int) (H : Int) (⟨r, flowsTo r s H s.length⟩, e)).step (0, X) = some (X.set i (levRow r s H i)) := by
  have hm := h.most
  have := loop_run (step := (L_river_Levels_1 l2 (i : Int) (H : Int) (⟨r, flowsTo r s H s.length⟩, e)).step) (fun k : Nat => ((k : Int), X.set i ((levRow r s H i).take k))) H (e := X.set i (levRow r s H i)) ?_ ?_
  · have e0 : X.set i [] = X := by rw [← h0]; exact List.set_getElem_self hX
    simpa [e0] using this
  · intro k hk
    have hX2 : i < (X.set i ((levRow r s H i).take k)).length := by rw [List.length_set]; exact hX
    have eg : (X.set i ((levRow r s H i).take k))[i] = (levRow r s H i).take k := by simp
    have el : (levRow r s H i)[k]? = some (levAt r s i (k : Int)) := by rw [List.getElem?_eq_getElem (by rw [levRow_length]; exact hk), levRow_get]
    simp only [L_river_Levels_1, Int.ofNat_lt, hk, decide_true, cond_true]
    rw [idx?_nat hX2, eg]
    simp only [Option.bind_some]
    rw [streamLevel_eq h hi hk]
    simp only [Option.bind_some]
    rw [app_of (by rw [List.length_take, levRow_length]; simp; omega) (by omega)]
    simp only [Option.bind_some]
    rw [set?_of hX2, wr_nat (by omega), List.set_set, List.take_add_one, el]
    rfl
  · have e2 : (levRow r s H i).take H = levRow r s H i := List.take_of_length_le (by rw [levRow_length]; exact Nat.le_refl _)
    simp [L_river_Levels_1, e2]
theorem Levels_eq {r : TRiver} {s : List (List TBounds)} {H : Nat} (h : FcOk r s H) (hz : startErr r s = 0) (hs : ∀ x ∈ s, x.length ≤ 1000000) : F_river_Levels (r, s) = some (levsTo r s H r.Reaches.length, 0) := by
  have hb := h.bounds
  have hln := h.len
  simp only [F_river_Levels, run_eq h hz hs, Option.bind_some, bne_self_eq_false, cond_false]
  rw [show mk? ([] : List TBounds) (r.Reaches.length : Int) 24 = some (List.replicate r.Reaches.length []) by
    unfold mk?
    rw [if_pos ⟨by omega, by omega, by omega⟩]; simp]
  simp only [Option.bind_some]
  have key : loopC (L_river_Levels_2 (List.replicate r.Reaches.length []) (⟨r, flowsTo r s H s.length⟩, 0)).step (0, List.replicate r.Reaches.length []) = some (levsTo r s H r.Reaches.length) := by
    have hL : (levsTo r s H r.Reaches.length).length = r.Reaches.length := levsTo_length _ _ _ _
    have := loop_run (step := (L_river_Levels_2 (List.replicate r.Reaches.length []) (⟨r, flowsTo r s H s.length⟩, 0)).step) (fun k : Nat => ((k : Int), (levsTo r s H r.Reaches.length).take k ++ List.replicate ((levsTo r s H r.Reaches.length).length - k) [])) r.Reaches.length (e := levsTo r s H r.Reaches.length) ?_ ?_
    · simpa [hL] using this
    · intro k hk
      have hXl : ((levsTo r s H r.Reaches.length).take k ++ List.replicate ((levsTo r s H r.Reaches.length).length - k) ([] : List TBounds)).length = r.Reaches.length := by
        rw [List.length_append, List.length_take, List.length_replicate, hL]; omega
      have h0 : ((levsTo r s H r.Reaches.length).take k ++ List.replicate ((levsTo r s H r.Reaches.length).length - k) ([] : List TBounds))[k]'(by omega) = [] := by
        rw [List.getElem_append_right (by rw [List.length_take, hL]; omega)]
        simp
      have hset := fill_set (levsTo r s H r.Reaches.length) ([] : List TBounds) k (by rw [hL]; exact hk)
      rw [levsTo_get] at hset
      simp only [L_river_Levels_2, List.length_replicate, Int.ofNat_lt, hk, decide_true, cond_true]
      rw [hours_eq h]
      simp only [Option.bind_some]
      rw [lev_loop1 h hk (by omega) h0]
      simp only [Option.bind_some]
      rw [hset, wr_nat (by omega)]
    · have e2 : (levsTo r s H r.Reaches.length).take r.Reaches.length = levsTo r s H r.Reaches.length := List.take_of_length_le (by rw [hL]; exact Nat.le_refl _)
      simp [L_river_Levels_2, hL, e2]
  rw [key]
  rfl
theorem Levels_err {r : TRiver} {s : List (List TBounds)} (hz : startErr r s ≠ 0) (hs : ∀ x ∈ s, x.length ≤ 1000000) : F_river_Levels (r, s) = some ([], startErr r s) := by
  simp only [F_river_Levels, run_err hz hs, Option.bind_some, show (startErr r s != 0) = true by simpa using hz, cond_true]
theorem Flows_eq {r : TRiver} {s : List (List TBounds)} {H : Nat} (h : FcOk r s H) (hz : startErr r s = 0) (hs : ∀ x ∈ s, x.length ≤ 1000000) : F_river_Flows (r, s) = some (flowsTo r s H s.length, 0) := by
  simp only [F_river_Flows, run_eq h hz hs, Option.bind_some]
theorem Flows_err {r : TRiver} {s : List (List TBounds)} (hz : startErr r s ≠ 0) (hs : ∀ x ∈ s, x.length ≤ 1000000) : F_river_Flows (r, s) = some ([], startErr r s) := by
  simp only [F_river_Flows, run_err hz hs, Option.bind_some]
theorem refFlows_eq {r : TRiver} {s : List (List TBounds)} {H : Nat} (h : FcOk r s H) : F_thalwegref01_Flows (r, s) = some (flowsTo r s H s.length) := by
  have hb := h.bounds
  have hln := h.len
  have hm := h.most
  have inner : ∀ (i : Nat) (Y : List (List TBounds)), i < s.length → loopC (L_thalwegref01_Flows_1 s (i : Int) r Y).step (0, []) = some (rowOf r s H i) := by
    intro i Y hi
    have := loop_run (step := (L_thalwegref01_Flows_1 s (i : Int) r Y).step) (fun k : Nat => ((k : Int), (rowOf r s H i).take k)) H (e := rowOf r s H i) ?_ ?_
    · simpa using this
    · intro k hk
      have el : (rowOf r s H i)[k]? = some (flowAt r s i (k : Int)) := by rw [List.getElem?_eq_getElem (by rw [rowOf_length]; exact hk), rowOf_get]
      simp only [L_thalwegref01_Flows_1, idx?_nat hi, Option.bind_some, h.hours _ (List.getElem_mem hi), Int.ofNat_lt, hk, decide_true, cond_true]
      rw [Flow_eq h (by omega) (by omega) (by omega)]
      simp only [Option.bind_some]
      rw [app_of (by rw [List.length_take, rowOf_length]; simp; omega) (by omega), wr_nat (by omega), List.take_add_one, el]
      rfl
    · have e2 : (rowOf r s H i).take H = rowOf r s H i := List.take_of_length_le (by rw [rowOf_length]; exact Nat.le_refl _)
      simp [L_thalwegref01_Flows_1, idx?_nat hi, h.hours _ (List.getElem_mem hi), e2]
  have key : loopC (L_thalwegref01_Flows_2 s r).step (0, []) = some (flowsTo r s H s.length) := by
    have := loop_run (step := (L_thalwegref01_Flows_2 s r).step) (fun k : Nat => ((k : Int), flowsTo r s H k)) s.length (e := flowsTo r s H s.length) ?_ ?_
    · simpa [flowsTo] using this
    · intro k hk
      simp only [L_thalwegref01_Flows_2, Int.ofNat_lt, hk, decide_true, cond_true]
      rw [inner k _ hk]
      simp only [Option.bind_some]
      rw [app_of (by rw [flowsTo_length]; simp; omega) (by omega), wr_nat (by omega), flowsTo_succ]
      rfl
    · simp [L_thalwegref01_Flows_2]
  simp only [F_thalwegref01_Flows, key, Option.bind_some]
theorem same_self (l : List TBounds) (h : l.length ≤ 1000000) : F_thalweglaw01_same (l, l) = some true := by
  simp only [F_thalweglaw01_same, bne_self_eq_false, cond_false]
  rw [show (0 : Int) = ((0 : Nat) : Int) from rfl, loop_list l (fun k => (k : Int)) (fun _ => true) (e := .inl ()) (f := .inr false)]
  · simp
  · intro k hk
    simp only [L_thalweglaw01_same_1, Int.ofNat_lt, hk, decide_true, cond_true, idx?_nat hk, Option.bind_some, beq_self_eq_true, Bool.and_self, Bool.not_true, cond_false, wr_nat (show k < 9223372036854775807 by omega), if_true]
  · simp [L_thalweglaw01_same_1]
theorem equal_self (l : List (List TBounds)) (h : l.length ≤ 1000000) (hs : ∀ x ∈ l, x.length ≤ 1000000) : F_thalweglaw01_equal (l, l) = some true := by
  simp only [F_thalweglaw01_equal, bne_self_eq_false, cond_false]
  rw [show (0 : Int) = ((0 : Nat) : Int) from rfl, loop_list l (fun k => (k : Int)) (fun _ => true) (e := .inl ()) (f := .inr false)]
  · simp
  · intro k hk
    simp only [L_thalweglaw01_equal_1, Int.ofNat_lt, hk, decide_true, cond_true, idx?_nat hk, Option.bind_some, same_self _ (hs _ (List.getElem_mem hk)), Bool.not_true, cond_false, wr_nat (show k < 9223372036854775807 by omega), if_true]
  · simp [L_thalweglaw01_equal_1]
theorem flows_in {r : TRiver} {s : List (List TBounds)} {H : Nat} (h : FcOk r s H) {i : Nat} (hi : i < r.Reaches.length) : loopC (L_thalweglaw01_RiverFlows_1 (levsTo r s H r.Reaches.length, 0) (flowsTo r s H s.length) (i : Int) ⟨r, s⟩).step 0 = some (.inl ()) := by
  have hb := h.bounds
  have hln := h.len
  have hm := h.most
  rw [show (0 : Int) = ((0 : Nat) : Int) from rfl, loop_range H (fun k => (k : Int)) (fun _ => true) (e := .inl ()) (f := .inr false)]
  · simp
  · intro k hk
    have g1 : idx? (levsTo r s H r.Reaches.length) (i : Int) = some (levRow r s H i) := by rw [idx?_nat (by rw [levsTo_length]; exact hi), levsTo_get]
    have g2 : idx? (levRow r s H i) (k : Int) = some (levAt r s i (k : Int)) := by rw [idx?_nat (by rw [levRow_length]; exact hk), levRow_get]
    have g3 : idx? (flowsTo r s H s.length) (i : Int) = some (rowOf r s H i) := by rw [idx?_nat (by rw [flowsTo_length]; omega), flowsTo_get]
    have g4 : idx? (rowOf r s H i) (k : Int) = some (flowAt r s i (k : Int)) := by rw [idx?_nat (by rw [rowOf_length]; exact hk), rowOf_get]
    simp only [L_thalweglaw01_RiverFlows_1, g1, g2, g3, g4, idx?_nat hi, Option.bind_some, levRow_length, Int.ofNat_lt, hk, decide_true, cond_true]
    rw [reachAt_eq hi, refLevel_eq (reachOk_curve (hb.2.2 i hi))]
    simp only [Option.bind_some, levAt, beq_self_eq_true, Bool.and_self, Bool.not_true, cond_false, wr_nat (show k < 9223372036854775807 by omega), if_true]
  · have g1 : idx? (levsTo r s H r.Reaches.length) (i : Int) = some (levRow r s H i) := by rw [idx?_nat (by rw [levsTo_length]; exact hi), levsTo_get]
    simp [L_thalweglaw01_RiverFlows_1, g1, levRow_length]
theorem flows_true {r : TRiver} {s : List (List TBounds)} (h1 : r.Reaches.length ≤ 140737488355328) (h2 : s.length ≤ 140737488355328) : F_thalweglaw01_RiverFlows ⟨r, s⟩ = some true := by
  simp only [F_thalweglaw01_RiverFlows, large_eq h1 h2, Option.bind_some, known_eq]
  cases hL : largeF r s with
  | true => rfl
  | false =>
    simp only [largeF, Bool.or_eq_false_iff, decide_eq_false_iff_not, Bool.not_eq_false', List.all_eq_true, decide_eq_true_eq] at hL
    obtain ⟨l1, l2, l3, l4, l5⟩ := hL
    have hs : ∀ x ∈ s, x.length ≤ 1000000 := fun x hx => by have := l5 x hx; omega
    simp only [cond_false]
    rw [copied_eq (r := r) (by omega) (by omega) (fun y hy => by have := l4 y hy; omega), forecast_eq (l := s) (by omega) hs]
    simp only [Option.bind_some]
    rw [unchanged_eq (r := r) (by omega) (by omega) (fun y hy => by have := l4 y hy; omega), equal_self s (by omega) hs, refStart_eq (r := r) (sides := s) hs (by omega)]
    simp only [Option.bind_some, Bool.not_true, cond_false]
    by_cases hz : startErr r s = 0
    · obtain ⟨H, h⟩ := fcOk_of hz
      have hb := h.bounds
      have hln := h.len
      have hm := h.most
      rw [Flows_eq h hz hs, Levels_eq h hz hs, refFlows_eq h]
      simp only [Option.bind_some, hz, bne_self_eq_false, cond_false]
      rw [equal_self (flowsTo r s H s.length) (by rw [flowsTo_length]; omega) (by
        intro x hx
        obtain ⟨k, hk, rfl⟩ := List.mem_iff_getElem.1 hx
        rw [flowsTo_get, rowOf_length]; omega)]
      simp only [Option.bind_some, Bool.not_true, cond_false, levsTo_length, flowsTo_length, show (((r.Reaches.length : Int) != (s.length : Int))) = false by simp [hln]]
      rw [show (0 : Int) = ((0 : Nat) : Int) from rfl, loop_range r.Reaches.length (fun k => (k : Int)) (fun _ => true) (e := .inl ()) (f := .inr false)]
      · simp
      · intro k hk
        have g1 : idx? (levsTo r s H r.Reaches.length) (k : Int) = some (levRow r s H k) := by rw [idx?_nat (by rw [levsTo_length]; exact hk), levsTo_get]
        have g3 : idx? (flowsTo r s H s.length) (k : Int) = some (rowOf r s H k) := by rw [idx?_nat (by rw [flowsTo_length]; omega), flowsTo_get]
        have := flows_in h hk
        simp only [L_thalweglaw01_RiverFlows_2, levsTo_length, Int.ofNat_lt, hk, decide_true, cond_true, g1, g3, Option.bind_some, levRow_length, rowOf_length, bne_self_eq_false, cond_false]
        erw [this]
        simp only [Option.bind_some, wr_nat (show k < 9223372036854775807 by omega), if_true]
      · simp [L_thalweglaw01_RiverFlows_2, levsTo_length]
    · rw [Flows_err hz hs, Levels_err hz hs]
      simp [show (startErr r s != 0) = true by simpa using hz, show wr 0 = 0 from wr_in (by omega) (by omega)]
end Go.Ev
/- The law on flows, by what is known of its argument. -/
set_option linter.unusedVariables false
namespace Go.Ev
theorem flows_law {f : Tthalweglaw01_Forecast} (h1 : kTthalweglaw01_Forecast f) : F_thalweglaw01_RiverFlows f = some true := by
  obtain ⟨r, s⟩ := f
  exact flows_true h1.1.1.1 h1.2.1
end Go.Ev
