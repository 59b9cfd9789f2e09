/- A part of the proof of TowMeasures. -/
import Derived.Test.YtkimjjjaifmioaaW10
/- The laws do what is said. -/
/- Chapter 3: what all laws of tows need. -/
set_option linter.unusedVariables false
set_option linter.unusedSimpArgs false
namespace Go.Ev
set_option maxHeartbeats 2000000
theorem every_int {l : List Int} {p : Int → Option Bool} {q : Int → Bool} {g : FuncId} {caps : List V} (hp : ∀ x ∈ l, p x = some (q x)) (hl : l.length ≤ 4611686018427387904) : F_numbers_Every_int (l, p, g, caps) = some (l.all q) := by
  unfold F_numbers_Every_int
  simp only
  rw [show (0 : Int) = ((0 : Nat) : Int) from rfl, loop_list l (fun k => (k : Int)) q (e := .inl ()) (f := .inr false)]
  · cases l.all q <;> rfl
  · intro k hk
    simp only [L_numbers_Every_int_1, Int.ofNat_lt, hk, decide_true, cond_true, idx?_nat hk, Option.bind_some, hp _ (List.getElem_mem hk), wr_nat (show k < 9223372036854775807 by omega)]
    cases q l[k] <;> rfl
  · simp [L_numbers_Every_int_1]
theorem bif_and (a b : Bool) : (bif a then some b else some false) = some (a && b) := by cases a <;> rfl
theorem bif_not (a b : Bool) : (bif (!a) then some false else some b) = some (a && b) := by cases a <;> rfl

theorem within1_eq (n a b : Int) : F_numbers_Within_1 (n, a, b) = some (inB n a b) := by
  simp only [F_numbers_Within_1, bif_and, inB]
theorem within_eq (a b : Int) (l : List Int) (hl : l.length ≤ 4611686018427387904) : F_numbers_Within (a, b, l) = some (l.all fun n => inB n a b) := by
  simp only [F_numbers_Within]
  rw [every_int (q := fun n => inB n a b) (fun x _ => within1_eq x a b) hl]
  rfl
theorem within1 (a b n : Int) : F_numbers_Within (a, b, [n]) = some (inB n a b) := by rw [within_eq _ _ _ (by simp)]; simp
theorem within2 (a b n m : Int) : F_numbers_Within (a, b, [n, m]) = some (inB n a b && inB m a b) := by rw [within_eq _ _ _ (by simp)]; simp
def vB (b : TBounds) (x y : Int) : Bool := decide (b.Low ≤ b.High) && (inB b.Low x y && inB b.High x y)
theorem valid_eq (b : TBounds) (x y : Int) : F_numbers_Valid (b, x, y) = some (vB b x y) := by
  simp only [F_numbers_Valid, within2, Option.bind_some, bif_and, vB]
theorem drop_cons {α : Type} {l m : List α} {k : Nat} {x : α} (h : l.drop k = x :: m) : ∃ hk : k < l.length, l[k] = x ∧ l.drop (k + 1) = m := by
  have hk : k < l.length := by
    rcases Nat.lt_or_ge k l.length with e | e
    · exact e
    · rw [List.drop_of_length_le e] at h; cases h
  rw [List.drop_eq_getElem_cons hk] at h
  cases h
  exact ⟨hk, rfl, rfl⟩
theorem drop_nil {α : Type} {l : List α} {k : Nat} (h : l.drop k = []) : l.length ≤ k := by
  have := congrArg List.length h
  simpa using Nat.le_of_sub_eq_zero (by simpa using this)

theorem tdiv_tmod {a b : Int} (hb : 0 < b) : b * a.tdiv b + a.tmod b = a ∧ -b < a.tmod b ∧ a.tmod b < b ∧ (0 ≤ a → 0 ≤ a.tmod b) ∧ (a ≤ 0 → a.tmod b ≤ 0) := by
  refine ⟨Int.mul_tdiv_add_tmod a b, ?_, ?_, ?_, ?_⟩
  · rcases Int.le_total 0 a with h | h
    · have := Int.tmod_nonneg b h; omega
    · have h1 := Int.tmod_nonneg b (a := -a) (by omega)
      have h2 := Int.tmod_lt_of_pos (-a) hb
      rw [Int.neg_tmod] at h1 h2; omega
  · exact Int.tmod_lt_of_pos a hb
  · exact fun h => Int.tmod_nonneg b h
  · intro h
    have h1 := Int.tmod_nonneg b (a := -a) (by omega)
    rw [Int.neg_tmod] at h1; omega
theorem tdiv_le {a b : Int} (hb : 0 < b) : -a.natAbs ≤ a.tdiv b ∧ a.tdiv b ≤ a.natAbs := by
  have h : (a.tdiv b).natAbs ≤ a.natAbs := by
    rw [Int.natAbs_tdiv]; exact Nat.div_le_self _ _
  omega
theorem div_of {a b q r : Int} (hb : 0 < b) (h : r + b * q = a) (h0 : 0 ≤ r) (h1 : r < b) : a / b = q := ((Int.ediv_emod_unique hb).2 ⟨h, h0, h1⟩).1

theorem Down_eq {a b : Int} (hb : 0 < b) (ha : a.natAbs ≤ 4611686018427387904) : F_numbers_Down (a, b) = some (a / b) := by
  obtain ⟨h1, h2, h3, h4, h5⟩ := tdiv_tmod (a := a) hb
  have h6 := tdiv_le (a := a) hb
  simp only [F_numbers_Down, nz_of (show b ≠ 0 by omega), Option.bind_some]
  rw [wr_in (n := a.tdiv b) (by omega) (by omega)]
  by_cases c : a.tmod b < 0
  · rw [wr_in (n := a.tdiv b - 1) (by omega) (by omega), div_of (q := a.tdiv b - 1) (r := a.tmod b + b) hb (by rw [Int.mul_sub]; omega) (by omega) (by omega)]
    simp [c]
  · rw [div_of (q := a.tdiv b) (r := a.tmod b) hb (by omega) (by omega) (by omega)]
    simp [c]
theorem div_bound {a b : Int} (hb : 0 < b) : -a.natAbs ≤ a / b ∧ a / b ≤ a.natAbs := by
  have := Int.natAbs_ediv_le_natAbs a b
  omega
theorem Up_eq {a b : Int} (hb : 0 < b) (ha : a.natAbs ≤ 4611686018427387904) : F_numbers_Up (a, b) = some (-((-a) / b)) := by
  have h := div_bound (a := -a) hb
  simp only [F_numbers_Up]
  rw [wr_in (n := 0 - a) (by omega) (by omega), show 0 - a = -a by omega, Down_eq hb (by omega)]
  simp only [Option.bind_some]
  rw [wr_in (by omega) (by omega)]
  simp
theorem loop_range {S E : Type} {step : S → Option (S ⊕ E)} (n : Nat) (st : Nat → S) (q : Nat → Bool) {e f : E} (h : ∀ k, k < n → step (st k) = some (if q k then .inl (st (k + 1)) else .inr f)) (he : step (st n) = some (.inr e)) :
    loopC step (st 0) = some (if (List.range n).all q then e else f) := by
  have := loop_list (List.range n) st q (e := e) (f := f) (step := step) (by intro k hk; simpa using h k (by simpa using hk)) (by simpa using he)
  exact this

theorem loop_range0 {E : Type} {step : Int → Option (Int ⊕ E)} (n : Nat) (q : Nat → Bool) {e f : E} (h : ∀ k : Nat, k < n → step (k : Int) = some (if q k then .inl ((k + 1 : Nat) : Int) else .inr f)) (he : step (n : Int) = some (.inr e)) : loopC step 0 = some (if (List.range n).all q then e else f) := loop_range n (fun k : Nat => (k : Int)) q h he
theorem loop_list0 {α E : Type} {step : Int → Option (Int ⊕ E)} (l : List α) (q : α → Bool) {e f : E} (h : ∀ (k : Nat) (hk : k < l.length), step (k : Int) = some (if q l[k] then .inl ((k + 1 : Nat) : Int) else .inr f)) (he : step (l.length : Int) = some (.inr e)) : loopC step 0 = some (if l.all q then e else f) := loop_list l (fun k : Nat => (k : Int)) q h he

/-! curves -/
theorem every_TowHull {l : List TTowHull} {p : TTowHull → Option Bool} {q : TTowHull → Bool} {g : FuncId} {caps : List V} (hp : ∀ x ∈ l, p x = some (q x)) (hl : l.length ≤ 4611686018427387904) : F_numbers_Every_TowHull (l, p, g, caps) = some (l.all q) := by
  unfold F_numbers_Every_TowHull
  simp only
  rw [show (0 : Int) = ((0 : Nat) : Int) from rfl, loop_list l (fun k => (k : Int)) q (e := .inl ()) (f := .inr false)]
  · cases l.all q <;> rfl
  · intro k hk
    simp only [L_numbers_Every_TowHull_1, Int.ofNat_lt, hk, decide_true, cond_true, idx?_nat hk, Option.bind_some, hp _ (List.getElem_mem hk), wr_nat (show k < 9223372036854775807 by omega)]
    cases q l[k] <;> rfl
  · simp [L_numbers_Every_TowHull_1]
theorem mulB {a b : Int} {A B : Nat} (ha : a.natAbs ≤ A) (hb : b.natAbs ≤ B) : (a * b).natAbs ≤ A * B := by
  rw [Int.natAbs_mul]; exact Nat.mul_le_mul ha hb

theorem mid_eq {lo hi : Nat} (h : lo ≤ hi) (hh : hi ≤ 1000000) : wr (Int.fdiv (IntKind.wrap .u64 (wr ((lo : Int) + (hi : Int)))) 2) = (((lo + hi) / 2 : Nat) : Int) := by
  rw [wr_in (n := (lo : Int) + (hi : Int)) (by omega) (by omega)]
  have e : IntKind.wrap .u64 ((lo : Int) + (hi : Int)) = ((lo + hi : Nat) : Int) := by
    simp [IntKind.wrap, IntKind.bits, IntKind.signed]; omega
  rw [e, show Int.fdiv ((lo + hi : Nat) : Int) 2 = (((lo + hi) / 2 : Nat) : Int) by rw [Int.fdiv_eq_ediv_of_nonneg _ (by omega)]; omega, wr_in (by omega) (by omega)]
theorem search_loop {n : Nat} (hn : n ≤ 100000) (q : Nat → Bool) (p : Int → Option Bool) (g : FuncId) (caps : List V) (hp : ∀ k : Nat, k < n → p (k : Int) = some (q k)) (hm : ∀ j k, j ≤ k → k < n → q j = true → q k = true) : ∀ (d lo hi : Nat), hi - lo ≤ d → lo ≤ hi → hi ≤ n → (∀ j, j < lo → q j = false) → (hi < n → q hi = true) →
    ∃ r : Nat, r ≤ n ∧ loopC (L_sort_Search_1 p g caps).step ((lo : Int), (hi : Int)) = some (r : Int) ∧ (∀ j, j < r → q j = false) ∧ (r < n → q r = true)
  | d, lo, hi, hd, hlh, hhn, hlo, hhi => by
    by_cases c : lo < hi
    · have hmid : (lo + hi) / 2 < n := by omega
      have e : (L_sort_Search_1 p g caps).step ((lo : Int), (hi : Int)) = some (.inl (if q ((lo + hi) / 2) then ((lo : Int), (((lo + hi) / 2 : Nat) : Int)) else ((((lo + hi) / 2 + 1 : Nat) : Int), (hi : Int)))) := by
        simp only [L_sort_Search_1, Int.ofNat_lt, c, decide_true, cond_true]
        rw [mid_eq hlh (by omega), hp _ hmid]
        simp only [Option.bind_some]
        rw [wr_nat (by omega)]
        cases q ((lo + hi) / 2) <;> rfl
      cases d with
      | zero => omega
      | succ d =>
        rw [loopC_eq, e]
        simp only
        cases hq : q ((lo + hi) / 2) with
        | true =>
          simp only [if_true]
          exact search_loop hn q p g caps hp hm d lo ((lo + hi) / 2) (by omega) (by omega) (by omega) hlo (fun _ => hq)
        | false =>
          simp only [Bool.false_eq_true, if_false]
          refine search_loop hn q p g caps hp hm d ((lo + hi) / 2 + 1) hi (by omega) (by omega) hhn (fun j hj => ?_) hhi
          cases hj' : q j with
          | false => rfl
          | true => rw [hm j ((lo + hi) / 2) (by omega) hmid hj'] at hq; cases hq
    · obtain rfl : lo = hi := by omega
      refine ⟨lo, hhn, ?_, hlo, hhi⟩
      rw [loopC_eq]
      simp [L_sort_Search_1]
theorem search_eq {n : Nat} (hn : n ≤ 100000) (q : Nat → Bool) (p : Int → Option Bool) (g : FuncId) (caps : List V) (hp : ∀ k : Nat, k < n → p (k : Int) = some (q k)) (hm : ∀ j k, j ≤ k → k < n → q j = true → q k = true) :
    ∃ r : Nat, r ≤ n ∧ F_sort_Search ((n : Int), p, g, caps) = some (r : Int) ∧ (∀ j, j < r → q j = false) ∧ (r < n → q r = true) := by
  obtain ⟨r, h1, h2, h3, h4⟩ := search_loop hn q p g caps hp hm n 0 n (by omega) (by omega) (by omega) (fun j hj => by omega) (fun h => by omega)
  refine ⟨r, h1, ?_, h3, h4⟩
  simp only [F_sort_Search]
  rw [show ((0 : Int), ((n : Nat) : Int)) = (((0 : Nat) : Int), (n : Int)) from rfl, h2]
  rfl
end Go.Ev
/- Chapter 3: how long, wide and heavy a tow is. -/
set_option linter.unusedVariables false
set_option linter.unusedSimpArgs false
namespace Go.Ev
set_option maxHeartbeats 2000000

def hullV (x : TTowHull) : Bool := inB x.Length 1 200 && (inB x.Width 1 30 && inB x.Mass 0 10000)
theorem validHull_eq (x : TTowHull) : F_tow_validHull x = some (hullV x) := by
  simp only [F_tow_validHull, within1, Option.bind_some, bif_and, hullV]
theorem rin_eq (n a b : Int) : F_thalwegref03_in (n, a, b) = some (inB n a b) := by
  simp only [F_thalwegref03_in, ge_iff_le, bif_and, inB]
theorem rHull_eq (x : TTowHull) : F_thalwegref03_Hull x = some (hullV x) := by
  simp only [F_thalwegref03_Hull, rin_eq, Option.bind_some, bif_and, hullV]
theorem hullV_iff {x : TTowHull} : hullV x = true ↔ (1 ≤ x.Length ∧ x.Length ≤ 200) ∧ (1 ≤ x.Width ∧ x.Width ≤ 30) ∧ 0 ≤ x.Mass ∧ x.Mass ≤ 10000 := by
  simp [hullV, inB_iff]
def rowV (l : List TTowHull) : Bool := inB (l.length : Int) 1 4 && l.all hullV
theorem rowV_iff {l : List TTowHull} : rowV l = true ↔ (1 ≤ l.length ∧ l.length ≤ 4) ∧ ∀ x ∈ l, hullV x = true := by
  simp only [rowV, Bool.and_eq_true, inB_iff, List.all_eq_true]
  constructor
  · rintro ⟨⟨a, b⟩, c⟩; exact ⟨⟨by omega, by omega⟩, c⟩
  · rintro ⟨⟨a, b⟩, c⟩; exact ⟨⟨by omega, by omega⟩, c⟩
def cntR : List (List TTowHull) → Int
  | [] => 0
  | x :: m => (x.length : Int) + cntR m
def towV (t : TTow) : Bool := hullV t.Boat && (inB t.Power 1 20000 && (!decide ((t.Rows.length : Int) > 10) && (t.Rows.all rowV && decide (cntR t.Rows ≤ 30))))
theorem validTow_loop (t : TTow) : ∀ (m : List (List TTowHull)) (k : Nat) (s : Int), t.Rows.drop k = m → k + m.length ≤ 1000 → 0 ≤ s → s ≤ 4 * k →
    loopC (L_tow_validTow_1 t).step (s, (k : Int)) = some (if m.all rowV then .inl (s + cntR m) else .inr false)
  | [], k, s, h, _, _, _ => by
    have := drop_nil h
    rw [loopC_eq]
    simp [L_tow_validTow_1, show ¬ k < t.Rows.length by omega, cntR]
  | x :: m, k, s, h, hk, h0, h1 => by
    obtain ⟨hk1, hg, hd⟩ := drop_cons h
    rw [loopC_eq]
    generalize hLL : loopC (L_tow_validTow_1 t).step = LL
    simp only [L_tow_validTow_1, Int.ofNat_lt, hk1, decide_true, cond_true, idx?_nat hk1, hg, Option.bind_some, within1]
    cases ha : inB (x.length : Int) 1 4 with
    | false => simp [rowV, ha]
    | true =>
      have hl := inB_iff.1 ha
      simp only [Bool.not_true, cond_false]
      rw [every_TowHull (q := hullV) (fun y _ => validHull_eq y) (by omega)]
      simp only [Option.bind_some]
      cases hb : x.all hullV with
      | false => simp [rowV, hb]
      | true =>
        subst hLL
        simp only [Bool.not_true, cond_false]
        rw [wr_in (n := s + (x.length : Int)) (by omega) (by omega), wr_nat (by simp at hk; omega)]
        rw [validTow_loop t m (k + 1) _ hd (by simp at hk ⊢; omega) (by omega) (by omega)]
        simp only [List.all_cons, rowV, ha, hb, Bool.and_self, Bool.true_and, cntR, Int.add_assoc]
theorem validTow_eq (t : TTow) : F_tow_validTow t = some (towV t) := by
  simp only [F_tow_validTow, validHull_eq, within1, Option.bind_some, towV]
  cases hullV t.Boat with
  | false => rfl
  | true =>
    cases inB t.Power 1 20000 with
    | false => rfl
    | true =>
      by_cases c : (t.Rows.length : Int) > 10
      · rw [decide_eq_true c]; rfl
      · rw [decide_eq_false c]
        simp only [Bool.not_true, cond_false, Bool.not_false, Bool.true_and]
        rw [show ((0 : Int), (0 : Int)) = (0, ((0 : Nat) : Int)) from rfl, validTow_loop t t.Rows 0 0 rfl (by omega) (by omega) (by omega)]
        cases t.Rows.all rowV <;> simp
theorem rTow_in (t : TTow) {k : Nat} (hk : k < t.Rows.length) (s3 : Int) (x18 : List TTowHull) (hl : t.Rows[k].length ≤ 1000) : loopC (L_thalwegref03_Tow_1 s3 x18 (k : Int) t).step 0 = some (if t.Rows[k].all hullV then .inl () else .inr false) := by
  refine loop_list0 t.Rows[k] hullV (fun j hj => ?_) ?_
  · simp only [L_thalwegref03_Tow_1, idx?_nat hk, Option.bind_some, Int.ofNat_lt, hj, decide_true, cond_true, idx?_nat hj, rHull_eq]
    rw [wr_nat (by omega)]
    cases hullV t.Rows[k][j] <;> rfl
  · simp [L_thalwegref03_Tow_1, idx?_nat hk]
theorem rTow_loop (t : TTow) : ∀ (m : List (List TTowHull)) (k : Nat) (s : Int), t.Rows.drop k = m → k + m.length ≤ 1000 → 0 ≤ s → s ≤ 4 * k →
    loopC (L_thalwegref03_Tow_2 t).step (s, (k : Int)) = some (if m.all rowV then .inl (s + cntR m) else .inr false)
  | [], k, s, h, _, _, _ => by
    have := drop_nil h
    rw [loopC_eq]
    simp [L_thalwegref03_Tow_2, show ¬ k < t.Rows.length by omega, cntR]
  | x :: m, k, s, h, hk, h0, h1 => by
    obtain ⟨hk1, hg, hd⟩ := drop_cons h
    rw [loopC_eq]
    generalize hLL : loopC (L_thalwegref03_Tow_2 t).step = LL
    simp only [L_thalwegref03_Tow_2, Int.ofNat_lt, hk1, decide_true, cond_true, idx?_nat hk1, hg, Option.bind_some, rin_eq]
    cases ha : inB (x.length : Int) 1 4 with
    | false => simp [rowV, ha]
    | true =>
      have hl := inB_iff.1 ha
      have hin := rTow_in t hk1 s x (by rw [hg]; omega)
      rw [hg] at hin
      simp only [Bool.not_true, cond_false]
      rw [hin]
      cases hb : x.all hullV with
      | false => simp [rowV, hb]
      | true =>
        subst hLL
        simp only [if_true, Option.bind_some]
        rw [wr_in (n := s + (x.length : Int)) (by omega) (by omega), wr_nat (by simp at hk; omega)]
        rw [rTow_loop t m (k + 1) _ hd (by simp at hk ⊢; omega) (by omega) (by omega)]
        simp only [List.all_cons, rowV, ha, hb, Bool.and_self, Bool.true_and, cntR, Int.add_assoc]
theorem rTow_eq (t : TTow) : F_thalwegref03_Tow t = some (towV t) := by
  simp only [F_thalwegref03_Tow, rHull_eq, rin_eq, Option.bind_some, towV]
  cases hullV t.Boat with
  | false => rfl
  | true =>
    cases inB t.Power 1 20000 with
    | false => rfl
    | true =>
      by_cases c : (t.Rows.length : Int) > 10
      · rw [decide_eq_true c]; rfl
      · rw [decide_eq_false c]
        simp only [Bool.not_true, cond_false, Bool.not_false, Bool.true_and]
        rw [show ((0 : Int), (0 : Int)) = (0, ((0 : Nat) : Int)) from rfl, rTow_loop t t.Rows 0 0 rfl (by omega) (by omega) (by omega)]
        cases t.Rows.all rowV <;> simp

/-! the size of a row -/
def hL : List TTowHull → Int → Int
  | [], v => v
  | x :: m, v => hL m (minmax true v x.Length)
def hW : List TTowHull → Int
  | [] => 0
  | x :: m => x.Width + hW m
def hMt : List TTowHull → Int
  | [] => 0
  | x :: m => x.Mass + hMt m
theorem hL_le : ∀ {m : List TTowHull} {v : Int}, (∀ x ∈ m, hullV x = true) → 0 ≤ v → v ≤ 200 → 0 ≤ hL m v ∧ hL m v ≤ 200
  | [], v, _, h0, h1 => ⟨h0, h1⟩
  | x :: m, v, hm, h0, h1 => by
    have hx := hullV_iff.1 (hm x (by simp))
    refine hL_le (m := m) (fun y hy => hm y (by simp [hy])) ?_ ?_ <;> (simp only [minmax, if_true]; split <;> omega)
theorem hWM_le : ∀ {m : List TTowHull}, (∀ x ∈ m, hullV x = true) → (0 ≤ hW m ∧ hW m ≤ 30 * m.length) ∧ 0 ≤ hMt m ∧ hMt m ≤ 10000 * m.length
  | [], _ => by simp [hW, hMt]
  | x :: m, hm => by
    have hx := hullV_iff.1 (hm x (by simp))
    have := hWM_le (m := m) fun y hy => hm y (by simp [hy])
    simp only [hW, hMt, List.length_cons]
    omega
theorem abreast_loop (l : List TTowHull) (hl : l.length ≤ 4) : ∀ (m : List TTowHull) (k : Nat) (a b c : Int), l.drop k = m → k + m.length ≤ 4 → (∀ x ∈ m, hullV x = true) → 0 ≤ b → b ≤ 30 * k → 0 ≤ c → c ≤ 10000 * k →
    loopC (L_tow_abreast_1 l).step ((k : Int), a, b, c) = some (hL m a, b + hW m, c + hMt m)
  | [], k, a, b, c, h, _, _, _, _, _, _ => by
    have := drop_nil h
    rw [loopC_eq]
    simp [L_tow_abreast_1, show ¬ k < l.length by omega, hL, hW, hMt]
  | x :: m, k, a, b, c, h, hk, hm, b0, b1, c0, c1 => by
    obtain ⟨hk1, hg, hd⟩ := drop_cons h
    have hx := hullV_iff.1 (hm x (by simp))
    rw [loopC_eq]
    generalize hLL : loopC (L_tow_abreast_1 l).step = LL
    simp only [L_tow_abreast_1, Int.ofNat_lt, hk1, decide_true, cond_true, idx?_nat hk1, hg, Option.bind_some]
    subst hLL
    rw [wr_nat (by omega), wr_in (n := b + x.Width) (by omega) (by omega), wr_in (n := c + x.Mass) (by omega) (by omega)]
    rw [abreast_loop l hl m (k + 1) _ _ _ hd (by simp at hk; omega) (fun y hy => hm y (by simp [hy])) (by omega) (by omega) (by omega) (by omega)]
    simp only [hL, hW, hMt, Int.add_assoc]
theorem abreast_eq {l : List TTowHull} (hl : rowV l = true) : F_tow_abreast l = some ⟨hL l 0, hW l, hMt l, (l.length : Int)⟩ := by
  obtain ⟨⟨_, h4⟩, hx⟩ := rowV_iff.1 hl
  simp only [F_tow_abreast]
  rw [show ((0 : Int), (0 : Int), (0 : Int), (0 : Int)) = (((0 : Nat) : Int), 0, 0, 0) from rfl, abreast_loop l h4 l 0 0 0 0 rfl (by omega) hx (by omega) (by omega) (by omega) (by omega)]
  simp
def mGo : List (List TTowHull) → Int → Int → Int → Int → Int × Int × Int × Int
  | [], a, b, c, d => (a, b, c, d)
  | x :: m, a, b, c, d => mGo m (a + hL x 0) (minmax true b (hW x)) (c + hMt x) (d + x.length)
theorem measure_loop (t : TTow) : ∀ (m : List (List TTowHull)) (k : Nat) (a b c d : Int), t.Rows.drop k = m → k + m.length ≤ 10 → (∀ x ∈ m, rowV x = true) → 0 ≤ a → a ≤ 200 + 200 * k → 0 ≤ c → c ≤ 10000 + 40000 * k → 0 ≤ d → d ≤ 4 * k →
    loopC (L_tow_Measure_1 t).step ((k : Int), a, b, c, d) = some (mGo m a b c d)
  | [], k, a, b, c, d, h, _, _, _, _, _, _, _, _ => by
    have := drop_nil h
    rw [loopC_eq]
    simp [L_tow_Measure_1, show ¬ k < t.Rows.length by omega, mGo]
  | x :: m, k, a, b, c, d, h, hk, hm, a0, a1, c0, c1, d0, d1 => by
    obtain ⟨hk1, hg, hd⟩ := drop_cons h
    have hx := hm x (by simp)
    obtain ⟨⟨_, h4⟩, hv⟩ := rowV_iff.1 hx
    have hl := hL_le (m := x) (v := 0) hv (by omega) (by omega)
    have hw := hWM_le hv
    rw [loopC_eq]
    generalize hLL : loopC (L_tow_Measure_1 t).step = LL
    simp only [L_tow_Measure_1, Int.ofNat_lt, hk1, decide_true, cond_true, idx?_nat hk1, hg, Option.bind_some, abreast_eq hx]
    subst hLL
    rw [wr_nat (by omega), wr_in (n := a + hL x 0) (by omega) (by omega), wr_in (n := c + hMt x) (by omega) (by omega), wr_in (n := d + (x.length : Int)) (by omega) (by omega)]
    rw [measure_loop t m (k + 1) _ _ _ _ hd (by simp at hk; omega) (fun y hy => hm y (by simp [hy])) (by omega) (by omega) (by omega) (by omega) (by omega) (by omega), mGo]
theorem rmeasure_in (t : TTow) {k : Nat} (hk : k < t.Rows.length) (s2 s3 : Int) (hl : t.Rows[k].length ≤ 4) : ∀ (m : List TTowHull) (j : Nat) (a b c d : Int), t.Rows[k].drop j = m → j + m.length ≤ 4 → (∀ x ∈ m, hullV x = true) → 0 ≤ b → b ≤ 30 * j → 0 ≤ c → c ≤ 1000000 + 10000 * j → 0 ≤ d → d ≤ 1000 + j →
    loopC (L_thalwegref03_Measure_1 (k : Int) t s2 s3).step (a, b, (j : Int), c, d) = some (hL m a, b + hW m, c + hMt m, d + m.length)
  | [], j, a, b, c, d, h, _, _, _, _, _, _, _, _ => by
    have := drop_nil h
    rw [loopC_eq]
    simp [L_thalwegref03_Measure_1, idx?_nat hk, show ¬ j < t.Rows[k].length by omega, hL, hW, hMt]
  | x :: m, j, a, b, c, d, h, hj, hm, b0, b1, c0, c1, d0, d1 => by
    obtain ⟨hk1, hg, hd⟩ := drop_cons h
    have hx := hullV_iff.1 (hm x (by simp))
    rw [loopC_eq]
    generalize hLL : loopC (L_thalwegref03_Measure_1 (k : Int) t s2 s3).step = LL
    simp only [L_thalwegref03_Measure_1, idx?_nat hk, Option.bind_some, Int.ofNat_lt, hk1, decide_true, cond_true, idx?_nat hk1, hg]
    subst hLL
    rw [wr_nat (by omega), wr_in (n := b + x.Width) (by omega) (by omega), wr_in (n := c + x.Mass) (by omega) (by omega), wr_in (n := d + 1) (by omega) (by omega)]
    rw [rmeasure_in t hk s2 s3 hl m (j + 1) _ _ _ _ hd (by simp at hj; omega) (fun y hy => hm y (by simp [hy])) (by omega) (by omega) (by omega) (by omega) (by omega) (by omega)]
    simp only [hL, hW, hMt, List.length_cons, Int.add_assoc, Option.some.injEq, Prod.mk.injEq, true_and]
    omega
theorem rmeasure_loop (t : TTow) : ∀ (m : List (List TTowHull)) (k : Nat) (a b c d : Int), t.Rows.drop k = m → k + m.length ≤ 10 → (∀ x ∈ m, rowV x = true) → 0 ≤ a → a ≤ 200 + 200 * k → 0 ≤ c → c ≤ 10000 + 40000 * k → 0 ≤ d → d ≤ 4 * k →
    loopC (L_thalwegref03_Measure_2 t).step ((k : Int), a, b, c, d) = some (mGo m a b c d)
  | [], k, a, b, c, d, h, _, _, _, _, _, _, _, _ => by
    have := drop_nil h
    rw [loopC_eq]
    simp [L_thalwegref03_Measure_2, show ¬ k < t.Rows.length by omega, mGo]
  | x :: m, k, a, b, c, d, h, hk, hm, a0, a1, c0, c1, d0, d1 => by
    obtain ⟨hk1, hg, hd⟩ := drop_cons h
    have hx := hm x (by simp)
    obtain ⟨⟨_, h4⟩, hv⟩ := rowV_iff.1 hx
    have hl := hL_le (m := x) (v := 0) hv (by omega) (by omega)
    have hw := hWM_le hv
    have hin := rmeasure_in t hk1 a b (by rw [hg]; exact h4) x 0 0 0 c d (by rw [hg]; rfl) (by omega) hv (by omega) (by omega) (by omega) (by omega) (by omega) (by omega)
    have hin : loopC (L_thalwegref03_Measure_1 (k : Int) t a b).step (0, 0, 0, c, d) = _ := hin
    rw [loopC_eq]
    generalize hLL : loopC (L_thalwegref03_Measure_2 t).step = LL
    simp only [L_thalwegref03_Measure_2, Int.ofNat_lt, hk1, decide_true, cond_true, hin, Option.bind_some]
    subst hLL
    rw [wr_nat (by omega), wr_in (n := a + hL x 0) (by omega) (by omega), Int.zero_add]
    rw [rmeasure_loop t m (k + 1) _ _ _ _ hd (by simp at hk; omega) (fun y hy => hm y (by simp [hy])) (by omega) (by omega) (by omega) (by omega) (by omega) (by omega), mGo]
theorem towV_parts {t : TTow} (h : towV t = true) : hullV t.Boat = true ∧ t.Rows.length ≤ 10 ∧ ∀ x ∈ t.Rows, rowV x = true := by
  simp only [towV, Bool.and_eq_true, Bool.not_eq_true', decide_eq_false_iff_not, List.all_eq_true] at h
  exact ⟨h.1, by omega, h.2.2.2.1⟩
theorem Measure_eq (t : TTow) : ∃ z, (towV t = true → F_thalwegref03_Measure t = some z) ∧ F_tow_Measure t = some (bif towV t then (z, 0) else (⟨0, 0, 0, 0⟩, 2)) := by
  simp only [F_tow_Measure, validTow_eq, Option.bind_some]
  cases h : towV t with
  | false => exact ⟨⟨0, 0, 0, 0⟩, fun h => (by cases h), rfl⟩
  | true =>
    obtain ⟨hb, hl, hr⟩ := towV_parts h
    have hb := hullV_iff.1 hb
    have e1 := measure_loop t t.Rows 0 t.Boat.Length t.Boat.Width t.Boat.Mass 0 rfl (by omega) hr (by omega) (by omega) (by omega) (by omega) (by omega) (by omega)
    have e2 := rmeasure_loop t t.Rows 0 t.Boat.Length t.Boat.Width t.Boat.Mass 0 rfl (by omega) hr (by omega) (by omega) (by omega) (by omega) (by omega) (by omega)
    have e1 : loopC (L_tow_Measure_1 t).step (0, t.Boat.Length, t.Boat.Width, t.Boat.Mass, 0) = _ := e1
    have e2 : loopC (L_thalwegref03_Measure_2 t).step (0, t.Boat.Length, t.Boat.Width, t.Boat.Mass, 0) = _ := e2
    refine ⟨⟨(mGo t.Rows t.Boat.Length t.Boat.Width t.Boat.Mass 0).1, (mGo t.Rows t.Boat.Length t.Boat.Width t.Boat.Mass 0).2.1, (mGo t.Rows t.Boat.Length t.Boat.Width t.Boat.Mass 0).2.2.1, (mGo t.Rows t.Boat.Length t.Boat.Width t.Boat.Mass 0).2.2.2⟩, fun _ => ?_, ?_⟩
    · simp only [F_thalwegref03_Measure, e2, Option.bind_some]
    · simp only [Bool.not_true, cond_false, e1, Option.bind_some, cond_true]

/-! the law -/
theorem knownT_eq : F_thalweglaw03_known () = some true := rfl
theorem take_loop (t : TTow) (ht : t.Rows.length ≤ 140737488355328) : ∀ (m : List (List TTowHull)) (k : Nat), t.Rows.drop k = m → (k = 0 ∨ t.Rows.length ≤ 15) → k ≤ t.Rows.length →
    loopC (L_thalweglaw03_TowMeasures_1 t).step ((k : Int), t.Rows.take k) = some (.inr true) ∨ (loopC (L_thalweglaw03_TowMeasures_1 t).step ((k : Int), t.Rows.take k) = some (.inl t.Rows) ∧ (∀ x ∈ m, x.length ≤ 8) ∧ t.Rows.length ≤ 15)
  | [], k, h, hc, hk => by
    have := drop_nil h
    refine Or.inr ⟨?_, fun x hx => (by cases hx), by omega⟩
    rw [loopC_eq]
    simp [L_thalweglaw03_TowMeasures_1, show ¬ k < t.Rows.length by omega, List.take_of_length_le this]
  | x :: m, k, h, hc, hk => by
    obtain ⟨hk1, hg, hd⟩ := drop_cons h
    rw [loopC_eq]
    generalize hLL : loopC (L_thalweglaw03_TowMeasures_1 t).step = LL
    simp only [L_thalweglaw03_TowMeasures_1, Int.ofNat_lt, hk1, decide_true, cond_true, idx?_nat hk1, hg, Option.bind_some, knownT_eq]
    by_cases c : x.length > 8
    · rw [decide_eq_true (show (x.length : Int) > 8 by omega)]
      exact Or.inl rfl
    · rw [decide_eq_false (show ¬ (x.length : Int) > 8 by omega)]
      by_cases c2 : t.Rows.length > 15
      · rw [decide_eq_true (show (t.Rows.length : Int) > 15 by omega)]
        exact Or.inl rfl
      · rw [decide_eq_false (show ¬ (t.Rows.length : Int) > 15 by omega)]
        simp only [cond_false, F_thalweglaw03_hulls]
        rw [app_nil (m := x) (n := 24) (by omega) (by decide)]
        simp only [Option.bind_some]
        rw [app_of (by simp; omega) (by decide), wr_nat (by omega)]
        simp only [Option.bind_some]
        subst hLL
        have ih := take_loop t ht m (k + 1) hd (Or.inr (by omega)) (by omega)
        rw [List.take_succ_eq_append_getElem hk1, hg] at ih
        rcases ih with e | ⟨e, h8, h15⟩
        · exact Or.inl e
        · refine Or.inr ⟨e, fun y hy => ?_, h15⟩
          cases hy with
          | head => omega
          | tail _ hy => exact h8 y hy
theorem measures_true {t : TTow} (ht : t.Rows.length ≤ 140737488355328) : F_thalweglaw03_TowMeasures t = some true := by
  simp only [F_thalweglaw03_TowMeasures]
  rcases take_loop t ht t.Rows 0 rfl (Or.inl rfl) (by omega) with e | ⟨e, h8, h15⟩
  · have e : loopC (L_thalweglaw03_TowMeasures_1 t).step (0, []) = _ := e
    rw [e]; rfl
  · have e : loopC (L_thalweglaw03_TowMeasures_1 t).step (0, []) = _ := e
    rw [e]
    obtain ⟨z, hz, hm⟩ := Measure_eq t
    simp only [Option.bind_some, hm, rTow_eq]
    have hin : ∀ y (k : Nat) (hk : k < t.Rows.length), loopC (L_thalweglaw03_TowMeasures_2 y (k : Int) t t.Rows).step 0 = some (.inl ()) := by
      intro y k hk
      have hl := h8 _ (List.getElem_mem hk)
      rw [show (0 : Int) = ((0 : Nat) : Int) from rfl, loop_run (fun j : Nat => (j : Int)) t.Rows[k].length (e := .inl ())]
      · intro j hj
        simp only [L_thalweglaw03_TowMeasures_2, idx?_nat hk, Option.bind_some, Int.ofNat_lt, hj, decide_true, cond_true, idx?_nat hj, beq_self_eq_true, Bool.and_self, Bool.not_true, cond_false]
        rw [wr_nat (by omega)]
      · simp [L_thalweglaw03_TowMeasures_2, idx?_nat hk]
    have hout : ∀ y, loopC (L_thalweglaw03_TowMeasures_3 y t t.Rows).step 0 = some (.inl ()) := by
      intro y
      rw [show (0 : Int) = ((0 : Nat) : Int) from rfl, loop_run (fun j : Nat => (j : Int)) t.Rows.length (e := .inl ())]
      · intro j hj
        simp only [L_thalweglaw03_TowMeasures_3, Int.ofNat_lt, hj, decide_true, cond_true, hin _ j hj, Option.bind_some]
        rw [wr_nat (by omega)]
      · simp [L_thalweglaw03_TowMeasures_3]
    rw [hout]
    simp only [Option.bind_some, knownT_eq]
    cases hv : towV t with
    | false => rfl
    | true =>
      simp only [cond_true, Bool.not_true, cond_false, hz hv, Option.bind_some, beq_self_eq_true, Bool.and_self]
end Go.Ev
/- Chapter 3: how many meters a tow needs to stop. -/
set_option linter.unusedVariables false
set_option linter.unusedSimpArgs false
namespace Go.Ev
set_option maxHeartbeats 2000000

/-- What is divided: v is the speed, q is power times grip, w is mass times the speed's square. -/
def nS (v q w : Int) : Int := 4320 * (v * q) + 1000 * w
def loS (v q w : Int) : Int := nS v q w / (2592 * q)
def hiS (v q w : Int) : Int := -((-nS v q w) / (2592 * q))
def stopB (m p : Int) (g : TBounds) (v : Int) : TBounds := ⟨loS v (p * g.High) (m * (v * v)), hiS v (p * g.Low) (m * (v * v))⟩

theorem pos_mul {a b A B : Int} (ha : 0 ≤ a ∧ a ≤ A) (hb : 0 ≤ b ∧ b ≤ B) : 0 ≤ a * b ∧ a * b ≤ A * B := by
  refine ⟨Int.mul_nonneg ha.1 hb.1, Int.mul_le_mul ha.2 hb.2 hb.1 (Int.le_trans ha.1 ha.2)⟩

structure Sp (m p g v : Int) : Prop where
  m : 0 ≤ m ∧ m ≤ 400000
  p : 1 ≤ p ∧ p ≤ 20000
  g : 1 ≤ g ∧ g ≤ 1000
  v : 0 ≤ v ∧ v ≤ 400
theorem Sp.q {m p g v : Int} (h : Sp m p g v) : 1 ≤ p * g ∧ p * g ≤ 20000000 := by
  have h1 := pos_mul (a := p - 1) (b := g - 1) (A := 19999) (B := 999) (by have := h.p; omega) (by have := h.g; omega)
  have h2 := pos_mul (a := p) (b := g) (A := 20000) (B := 1000) (by have := h.p; omega) (by have := h.g; omega)
  have h3 := h.p
  have h4 := h.g
  have e : (p - 1) * (g - 1) = p * g - p - g + 1 := by rw [Int.sub_mul, Int.mul_sub]; omega
  omega
theorem Sp.t {m p g v : Int} (h : Sp m p g v) : 0 ≤ v * (p * g) ∧ v * (p * g) ≤ 8000000000 := by
  have := pos_mul (a := v) (b := p * g) (A := 400) (B := 20000000) (by have := h.v; omega) (by have := h.q; omega)
  omega
theorem Sp.w {m p g v : Int} (h : Sp m p g v) : 0 ≤ m * (v * v) ∧ m * (v * v) ≤ 64000000000 := by
  have h1 := pos_mul (a := v) (b := v) (A := 400) (B := 400) (by have := h.v; omega) (by have := h.v; omega)
  have := pos_mul (a := m) (b := v * v) (A := 400000) (B := 160000) (by have := h.m; omega) (by omega)
  omega
theorem Sp.n {m p g v : Int} (h : Sp m p g v) : 0 ≤ nS v (p * g) (m * (v * v)) ∧ nS v (p * g) (m * (v * v)) ≤ 98560000000000 := by
  have := h.t
  have := h.w
  unfold nS
  omega
theorem den_wr {m p g v : Int} (h : Sp m p g v) : wr (wr (2592 * p) * g) = 2592 * (p * g) := by
  have := h.q
  have := h.p
  rw [wr_in (n := 2592 * p) (by omega) (by omega), Int.mul_assoc, wr_in (by omega) (by omega)]
theorem sq_wr {m p g v : Int} (h : Sp m p g v) : wr (wr (wr (m * 1000) * v) * v) = 1000 * (m * (v * v)) := by
  have h1 := h.m
  have h2 := h.w
  have h3 := pos_mul (a := m) (b := v) (A := 400000) (B := 400) (by omega) (by have := h.v; omega)
  rw [wr_in (n := m * 1000) (by omega) (by omega), show m * 1000 * v = 1000 * (m * v) by ac_rfl, wr_in (n := 1000 * (m * v)) (by omega) (by omega), show 1000 * (m * v) * v = 1000 * (m * (v * v)) by ac_rfl, wr_in (by omega) (by omega)]
theorem num_wr {m p g v : Int} (h : Sp m p g v) : wr (wr (wr (wr (wr (v * 5) * 864) * p) * g) + wr (wr (wr (m * 1000) * v) * v)) = nS v (p * g) (m * (v * v)) := by
  have h1 := h.v
  have h2 := h.t
  have h3 := pos_mul (a := v) (b := p) (A := 400) (B := 20000) (by omega) (by have := h.p; omega)
  have hw := h.w
  rw [sq_wr h, wr_in (n := v * 5) (by omega) (by omega), wr_in (n := v * 5 * 864) (by omega) (by omega), show v * 5 * 864 * p = 4320 * (v * p) by rw [show (4320 : Int) = 5 * 864 from rfl]; ac_rfl, wr_in (n := 4320 * (v * p)) (by omega) (by omega), show 4320 * (v * p) * g = 4320 * (v * (p * g)) by ac_rfl, wr_in (n := 4320 * (v * (p * g))) (by omega) (by omega)]
  exact wr_in (by omega) (by omega)
theorem hi_alt {n k : Int} (hk : 0 < k) : -((-n) / k) = (n + k - 1) / k := by
  have e := Int.emod_add_mul_ediv (-n) k
  have e1 := Int.emod_nonneg (-n) (show k ≠ 0 by omega)
  have e2 := Int.emod_lt_of_pos (-n) hk
  symm
  refine div_of (r := k - 1 - (-n) % k) hk ?_ (by omega) (by omega)
  rw [Int.mul_neg]
  omega

theorem stop_eq {m p v : Int} {g : TBounds} (h1 : Sp m p g.Low v) (h2 : Sp m p g.High v) : F_tow_stop (m, p, g, v) = some (stopB m p g v) := by
  have q1 := h1.q
  have q2 := h2.q
  have n1 := h1.n
  have n2 := h2.n
  simp only [F_tow_stop, F_tow_stop_1, num_wr h1, num_wr h2, den_wr h1, den_wr h2]
  rw [Down_eq (b := 2592 * (p * g.High)) (by omega) (by omega), Up_eq (b := 2592 * (p * g.Low)) (by omega) (by omega)]
  rfl
theorem rstop_eq {m p v : Int} {g : TBounds} (h1 : Sp m p g.Low v) (h2 : Sp m p g.High v) : F_thalwegref03_Stop (m, p, g, v) = some (stopB m p g v) := by
  have q1 := h1.q
  have q2 := h2.q
  have n1 := h1.n
  have n2 := h2.n
  have t1 := h1.t
  have t2 := h2.t
  have w1 := h1.w
  have hv := h1.v
  have part : ∀ (g : Int), Sp m p g v → wr (wr (Int.tdiv (wr (wr (v * 5) * (2592 * (p * g)))) 3) + 1000 * (m * (v * v))) = nS v (p * g) (m * (v * v)) := by
    intro g h
    have q := h.q
    have t := h.t
    have w := h.w
    rw [wr_in (n := v * 5) (by omega) (by omega), show v * 5 * (2592 * (p * g)) = 3 * (4320 * (v * (p * g))) by
      rw [← Int.mul_assoc 3, show (3 * 4320 : Int) = 5 * 2592 from rfl]; ac_rfl, wr_in (n := 3 * (4320 * (v * (p * g)))) (by omega) (by omega), Int.mul_tdiv_cancel_left _ (by decide), wr_in (n := 4320 * (v * (p * g))) (by omega) (by omega)]
    exact wr_in (by omega) (by omega)
  simp only [F_thalwegref03_Stop, den_wr h1, den_wr h2, sq_wr h1]
  rw [nz_of (by omega), nz_of (by omega), part _ h1, part _ h2]
  simp only [Option.bind_some]
  have b1 := div_bound (a := nS v (p * g.High) (m * (v * v))) (b := 2592 * (p * g.High)) (by omega)
  have b2 := div_bound (a := nS v (p * g.Low) (m * (v * v)) + 2592 * (p * g.Low) - 1) (b := 2592 * (p * g.Low)) (by omega)
  rw [Int.tdiv_eq_ediv_of_nonneg n2.1, wr_in (n := nS v (p * g.High) (m * (v * v)) / (2592 * (p * g.High))) (by omega) (by omega),
    wr_in (n := nS v (p * g.Low) (m * (v * v)) + 2592 * (p * g.Low)) (by omega) (by omega), wr_in (n := nS v (p * g.Low) (m * (v * v)) + 2592 * (p * g.Low) - 1) (by omega) (by omega),
    Int.tdiv_eq_ediv_of_nonneg (by omega), wr_in (n := (nS v (p * g.Low) (m * (v * v)) + 2592 * (p * g.Low) - 1) / (2592 * (p * g.Low))) (by omega) (by omega), ← hi_alt (by omega)]
  rfl

/-! more speed, more power, more mass -/
theorem hi_le {v q w c : Int} (hq : 0 < q) : hiS v q w ≤ c ↔ nS v q w ≤ c * (2592 * q) := by
  unfold hiS
  rw [show -(-nS v q w / (2592 * q)) ≤ c ↔ -c ≤ -nS v q w / (2592 * q) by omega, Int.le_ediv_iff_mul_le (by omega), Int.neg_mul]
  omega
theorem le_lo {v q w c : Int} (hq : 0 < q) : c ≤ loS v q w ↔ c * (2592 * q) ≤ nS v q w := Int.le_ediv_iff_mul_le (by omega)
theorem nS_mono {v v' q w w' : Int} (hq : 0 < q) (hv : v ≤ v') (hw : w ≤ w') : nS v q w ≤ nS v' q w' := by
  have := Int.mul_le_mul_of_nonneg_right hv (Int.le_of_lt hq)
  unfold nS
  omega
theorem hi_mono {v v' q w w' : Int} (hq : 0 < q) (hv : v ≤ v') (hw : w ≤ w') : hiS v q w ≤ hiS v' q w' := by
  rw [hi_le hq]
  exact Int.le_trans (nS_mono hq hv hw) ((hi_le hq).1 (Int.le_refl _))
theorem lo_mono {v v' q w w' : Int} (hq : 0 < q) (hv : v ≤ v') (hw : w ≤ w') : loS v q w ≤ loS v' q w' := by
  rw [le_lo hq]
  exact Int.le_trans ((le_lo hq).1 (Int.le_refl _)) (nS_mono hq hv hw)
/-- c times what divides, against what is divided: by how much c exceeds the way before the brakes. -/
theorem over {v q w c : Int} : nS v q w ≤ c * (2592 * q) ↔ 1000 * w ≤ (2592 * c - 4320 * v) * q := by
  unfold nS
  rw [Int.sub_mul, show c * (2592 * q) = 2592 * c * q by ac_rfl, show 4320 * (v * q) = 4320 * v * q by ac_rfl]
  omega
theorem under {v q w c : Int} : c * (2592 * q) ≤ nS v q w ↔ (2592 * c - 4320 * v) * q ≤ 1000 * w := by
  unfold nS
  rw [Int.sub_mul, show c * (2592 * q) = 2592 * c * q by ac_rfl, show 4320 * (v * q) = 4320 * v * q by ac_rfl]
  omega
theorem hi_force {v q q' w : Int} (hq : 0 < q) (hqq : q ≤ q') (hw : 0 ≤ w) : hiS v q' w ≤ hiS v q w := by
  rw [hi_le (by omega), over]
  have h := over.1 ((hi_le hq).1 (Int.le_refl (hiS v q w)))
  generalize 2592 * hiS v q w - 4320 * v = d at *
  have hd : 0 ≤ d := by
    rcases Int.lt_or_le d 0 with c | c
    · have := Int.mul_neg_of_neg_of_pos c hq
      omega
    · exact c
  have := Int.mul_le_mul_of_nonneg_left hqq hd
  omega
theorem lo_force {v q q' w : Int} (hq : 0 < q) (hqq : q ≤ q') (hw : 0 ≤ w) : loS v q' w ≤ loS v q w := by
  rw [le_lo hq, under]
  have h := under.1 ((le_lo (by omega)).1 (Int.le_refl (loS v q' w)))
  generalize 2592 * loS v q' w - 4320 * v = d at *
  rcases Int.lt_or_le d 0 with c | c
  · have := Int.mul_neg_of_neg_of_pos c hq
    omega
  · have := Int.mul_le_mul_of_nonneg_left hqq c
    omega
theorem lo_le_hi {v q w : Int} (hq : 0 < q) : loS v q w ≤ hiS v q w := by
  have h1 := (le_lo (v := v) (w := w) hq).1 (Int.le_refl _)
  have h2 := (hi_le (v := v) (w := w) hq).1 (Int.le_refl _)
  have h3 := Int.le_trans h1 h2
  exact Int.le_of_mul_le_mul_right h3 (by omega)
theorem lo_nonneg {v q w : Int} (hq : 0 < q) (hn : 0 ≤ nS v q w) : 0 ≤ loS v q w := by
  rw [le_lo hq]; omega
theorem hi_way {v q w : Int} (hq : 0 < q) (hw : 0 ≤ w) : 5 * v ≤ 3 * hiS v q w := by
  have h := over.1 ((hi_le hq).1 (Int.le_refl (hiS v q w)))
  rcases Int.lt_or_le (2592 * hiS v q w - 4320 * v) 0 with c | c
  · have := Int.mul_neg_of_neg_of_pos c hq
    omega
  · omega
theorem hi_zero {q : Int} : hiS 0 q 0 = 0 := by simp [hiS, nS]
theorem sq_mono {m v v' : Int} (hm : 0 ≤ m) (h0 : 0 ≤ v) (h : v ≤ v') : m * (v * v) ≤ m * (v' * v') :=
  Int.mul_le_mul_of_nonneg_left (Int.mul_le_mul h h h0 (by omega)) hm

/-! what is allowed -/
def canV (m p : Int) (g : TBounds) : Bool := inB m 0 400000 && (inB p 1 20000 && vB g 1 1000)
theorem canStop_eq (m p : Int) (g : TBounds) : F_tow_canStop (m, p, g) = some (canV m p g) := by
  simp only [F_tow_canStop, within1, valid_eq, Option.bind_some, bif_and, canV]
theorem rvalid_eq (b : TBounds) (x y : Int) : F_thalwegref03_valid (b, x, y) = some (vB b x y) := by
  simp only [F_thalwegref03_valid, rin_eq, Option.bind_some, bif_and, Option.some.injEq]
  rw [Bool.eq_iff_iff]
  simp only [vB, Bool.and_eq_true, inB_iff, decide_eq_true_eq]
  omega
theorem rStops_eq (m p : Int) (g : TBounds) (v : Int) : F_thalwegref03_Stops (m, p, g, v) = some (canV m p g && inB v 0 400) := by
  simp only [F_thalwegref03_Stops, rin_eq, rvalid_eq, Option.bind_some, bif_and, canV, Bool.and_assoc]
theorem canV_iff {m p : Int} {g : TBounds} : canV m p g = true ↔ (0 ≤ m ∧ m ≤ 400000) ∧ (1 ≤ p ∧ p ≤ 20000) ∧ g.Low ≤ g.High ∧ (1 ≤ g.Low ∧ g.Low ≤ 1000) ∧ 1 ≤ g.High ∧ g.High ≤ 1000 := by
  simp only [canV, vB, Bool.and_eq_true, inB_iff, decide_eq_true_eq]
theorem sp_of {m p : Int} {g : TBounds} (h : canV m p g = true) {v : Int} (hv : 0 ≤ v ∧ v ≤ 400) : Sp m p g.Low v ∧ Sp m p g.High v := by
  obtain ⟨a, b, c, d, e⟩ := canV_iff.1 h
  exact ⟨⟨a, b, d, hv⟩, ⟨a, b, e, hv⟩⟩
theorem Stop_eq (m p : Int) (g : TBounds) (v : Int) : F_tow_Stop (m, p, g, v) = some (bif canV m p g && inB v 0 400 then (stopB m p g v, 0) else (⟨0, 0⟩, 3)) := by
  simp only [F_tow_Stop, canStop_eq, within1, Option.bind_some]
  cases hc : canV m p g with
  | false => rfl
  | true =>
    cases hv : inB v 0 400 with
    | false => rfl
    | true =>
      obtain ⟨h1, h2⟩ := sp_of hc (inB_iff.1 hv)
      simp only [Bool.not_true, cond_false, stop_eq h1 h2, Option.bind_some, Bool.and_self, cond_true]
/-- The greatest speed at which a tow can stop. -/
theorem Safe_eq {m p : Int} {g : TBounds} (hc : canV m p g = true) {s : Int} (hs : 0 ≤ s ∧ s ≤ 100000) : ∃ r : Nat, r ≤ 400 ∧ F_tow_Safe (m, p, g, s) = some ((r : Int), 0) ∧ (∀ j : Nat, j ≤ r → (stopB m p g j).High ≤ s) ∧ ∀ j : Nat, r < j → j ≤ 400 → s < (stopB m p g j).High := by
  have hmono : ∀ j k : Nat, j ≤ k → k ≤ 400 → (stopB m p g j).High ≤ (stopB m p g k).High := by
    intro j k hjk hk
    obtain ⟨h1, _⟩ := sp_of hc (v := (k : Int)) (by omega)
    exact hi_mono (by have := h1.q; omega) (by omega) (sq_mono h1.m.1 (by omega) (by omega))
  obtain ⟨r, hr, he, hf, ht⟩ := search_eq (n := 400) (by decide) (fun j => decide ((stopB m p g ((j + 1 : Nat) : Int)).High > s)) (fun q => F_tow_Safe_1 (q, m, p, g, s)) 44 [(V.fptr [(V.v (.int .i64 (m)))]), (V.fptr [(V.v (.int .i64 (p)))]), (V.fptr [(V.v (.int .i64 (g.Low))), (V.v (.int .i64 (g.High)))]), (V.fptr [(V.v (.int .i64 (s)))])]
    (by
      intro k hk
      obtain ⟨h1, h2⟩ := sp_of hc (v := ((k + 1 : Nat) : Int)) (by omega)
      simp only [F_tow_Safe_1]
      rw [wr_nat (by omega), stop_eq h1 h2]
      rfl)
    (by
      intro j k hjk hk hj
      have := hmono (j + 1) (k + 1) (by omega) (by omega)
      have hj := of_decide_eq_true hj
      exact decide_eq_true (by omega))
  refine ⟨r, hr, ?_, ?_, ?_⟩
  · simp only [F_tow_Safe, canStop_eq, hc, within1, show inB s 0 100000 = true from inB_iff.2 hs, Option.bind_some, Bool.not_true, cond_false]
    have he : F_sort_Search (400, _) = _ := he
    rw [he]
    rfl
  · intro j hj
    cases j with
    | zero =>
      have : (stopB m p g ((0 : Nat) : Int)).High = 0 := by
        show hiS 0 (p * g.Low) (m * (0 * 0)) = 0
        simp [hiS, nS]
      omega
    | succ j =>
      have := of_decide_eq_false (hf j (by omega))
      omega
  · intro j hj hj4
    have h := of_decide_eq_true (ht (by omega))
    have := hmono (r + 1) j (by omega) (by omega)
    omega
theorem rSafe_loop {m p : Int} {g : TBounds} (hc : canV m p g = true) {s : Int} {r : Nat} (hr : r ≤ 400) (h1 : ∀ j : Nat, j ≤ r → (stopB m p g j).High ≤ s) (h2 : ∀ j : Nat, r < j → j ≤ 400 → s < (stopB m p g j).High) : ∀ (n k : Nat) (b : Int), k + n = 401 → (r < k → b = r) →
    loopC (L_thalwegref03_Safe_1 m p s g).step ((k : Int), b) = some (r : Int)
  | 0, k, b, hk, hb => by
    rw [loopC_eq]
    simp only [L_thalwegref03_Safe_1]
    rw [decide_eq_false (show ¬ (k : Int) ≤ 400 by omega), hb (by omega)]
    rfl
  | n + 1, k, b, hk, hb => by
    obtain ⟨g1, g2⟩ := sp_of hc (v := (k : Int)) (by omega)
    rw [loopC_eq]
    generalize hLL : loopC (L_thalwegref03_Safe_1 m p s g).step = LL
    simp only [L_thalwegref03_Safe_1]
    rw [decide_eq_true (show (k : Int) ≤ 400 by omega), rstop_eq g1 g2]
    simp only [cond_true, Option.bind_some]
    subst hLL
    by_cases c : k ≤ r
    · rw [decide_eq_true (h1 k c), wr_nat (by omega)]
      exact rSafe_loop hc hr h1 h2 n (k + 1) k (by omega) (fun h => by omega)
    · have := h2 k (by omega) (by omega)
      rw [decide_eq_false (show ¬ (stopB m p g k).High ≤ s by omega), wr_nat (by omega)]
      exact rSafe_loop hc hr h1 h2 n (k + 1) b (by omega) (fun h => hb (by omega))
theorem rSafe_eq {m p : Int} {g : TBounds} (hc : canV m p g = true) {s : Int} {r : Nat} (hr : r ≤ 400) (h1 : ∀ j : Nat, j ≤ r → (stopB m p g j).High ≤ s) (h2 : ∀ j : Nat, r < j → j ≤ 400 → s < (stopB m p g j).High) : F_thalwegref03_Safe (m, p, g, s) = some (r : Int) := by
  simp only [F_thalwegref03_Safe]
  have := rSafe_loop hc hr h1 h2 401 0 0 (by omega) (fun h => by omega)
  have this : loopC (L_thalwegref03_Safe_1 m p s g).step (0, 0) = _ := this
  rw [this]
  rfl
theorem Safe_bad {m p : Int} {g : TBounds} {s : Int} (h : canV m p g = false ∨ s < 0 ∨ 100000 < s) : F_tow_Safe (m, p, g, s) = some (0, 3) := by
  simp only [F_tow_Safe, canStop_eq, within1, Option.bind_some]
  cases hc : canV m p g with
  | false => rfl
  | true =>
    have : inB s 0 100000 = false := by
      rw [Bool.eq_false_iff]
      intro hi
      have := inB_iff.1 hi
      rcases h with h | h
      · rw [h] at hc; cases hc
      · omega
    rw [this]
    rfl
theorem stops_true (x : Tanon37) (g : TBounds) (v : Tanon37) : F_thalweglaw03_TowStops (x, g, v) = some true := by
  have h0 : inB 0 0 400 = true := by decide
  have key : ∃ n f, F_tow_Safe (x.a0, x.a1, g, v.a1) = some (n, f) ∧
      (canV x.a0 x.a1 g = false → n = 0 ∧ f = 3) ∧ (v.a1 < 0 → n = 0 ∧ f = 3) ∧ (v.a1 > 100000 → n = 0 ∧ f = 3) ∧
      (canV x.a0 x.a1 g = true → 0 ≤ v.a1 → v.a1 ≤ 100000 → f = 0 ∧ F_thalwegref03_Safe (x.a0, x.a1, g, v.a1) = some n) := by
    by_cases hs : canV x.a0 x.a1 g = false ∨ v.a1 < 0 ∨ 100000 < v.a1
    · refine ⟨0, 3, Safe_bad hs, fun _ => ⟨rfl, rfl⟩, fun _ => ⟨rfl, rfl⟩, fun _ => ⟨rfl, rfl⟩, fun h1 h2 h3 => ?_⟩
      rcases hs with h | h
      · rw [h] at h1; cases h1
      · omega
    · have hc : canV x.a0 x.a1 g = true := by
        cases h : canV x.a0 x.a1 g with
        | true => rfl
        | false => exact absurd (Or.inl h) hs
      have hv : 0 ≤ v.a1 ∧ v.a1 ≤ 100000 := by
        have : ¬ (v.a1 < 0 ∨ 100000 < v.a1) := fun h => hs (Or.inr h)
        omega
      obtain ⟨r, hr, e, f1, f2⟩ := Safe_eq hc hv
      refine ⟨r, 0, e, fun h => ?_, fun h => by omega, fun h => by omega, fun _ _ _ => ⟨rfl, rSafe_eq hc hr f1 f2⟩⟩
      rw [h] at hc; cases hc
  obtain ⟨n, f, e, k1, k2, k3, k4⟩ := key
  simp only [F_thalweglaw03_TowStops, Stop_eq, e, rStops_eq, h0, Bool.and_true, Option.bind_some, knownT_eq]
  cases hc : canV x.a0 x.a1 g with
  | false =>
    obtain ⟨rfl, rfl⟩ := k1 hc
    rfl
  | true =>
    cases hv : inB v.a0 0 400 with
    | false =>
      by_cases c1 : v.a1 < 0
      · obtain ⟨rfl, rfl⟩ := k2 c1
        simp [c1]
      · by_cases c2 : v.a1 > 100000
        · obtain ⟨rfl, rfl⟩ := k3 c2
          simp [c1, c2]
        · obtain ⟨rfl, e2⟩ := k4 hc (by omega) (by omega)
          simp [c1, c2, e2]
    | true =>
      obtain ⟨g1, g2⟩ := sp_of hc (inB_iff.1 hv)
      simp only [rstop_eq g1 g2, Option.bind_some]
      by_cases c1 : v.a1 < 0
      · obtain ⟨rfl, rfl⟩ := k2 c1
        simp [c1]
      · by_cases c2 : v.a1 > 100000
        · obtain ⟨rfl, rfl⟩ := k3 c2
          simp [c1, c2]
        · obtain ⟨rfl, e2⟩ := k4 hc (by omega) (by omega)
          simp [c1, c2, e2]
end Go.Ev
/- Chapter 3: brakes. -/
set_option linter.unusedVariables false
set_option linter.unusedSimpArgs false
namespace Go.Ev
set_option maxHeartbeats 2000000

theorem tmod_in {a b : Int} (ha : 0 ≤ a) (hb : 0 < b) : 0 ≤ Int.tmod a b ∧ Int.tmod a b < b := ⟨Int.tmod_nonneg b ha, Int.tmod_lt_of_pos a hb⟩
theorem minmax_in {a b l h : Int} (up : Bool) (ha : l ≤ a ∧ a ≤ h) (hb : l ≤ b ∧ b ≤ h) : l ≤ minmax up a b ∧ minmax up a b ≤ h := by
  cases up <;> simp only [minmax, if_true, Bool.false_eq_true, if_false] <;> split <;> omega
theorem minmax_le {a b : Int} : minmax false a b ≤ minmax true a b := by
  simp only [minmax, if_true, Bool.false_eq_true, if_false]; split <;> split <;> omega
theorem brakes_true {x : Tthalweglaw03_Brakes} (h1 : 0 ≤ x.Mass ∧ x.Mass ≤ 65535) (h2 : 0 ≤ x.Power ∧ x.Power ≤ 65535) (h3 : 0 ≤ x.Grip.a0 ∧ x.Grip.a0 ≤ 255) (h4 : 0 ≤ x.Grip.a1 ∧ x.Grip.a1 ≤ 255) (h5 : 0 ≤ x.Speed.a0 ∧ x.Speed.a0 ≤ 255) (h6 : 0 ≤ x.Speed.a1 ∧ x.Speed.a1 ≤ 255) (h7 : 0 ≤ x.Sight ∧ x.Sight ≤ 65535) : F_thalweglaw03_TowBrakes x = some true := by
  have m1 := tmod_in (b := 19999) h2.1 (by decide)
  have m2 := tmod_in (b := 140) h6.1 (by decide)
  have m3 := minmax_in false h3 h4
  have m4 := minmax_in true h3 h4
  have m5 := minmax_le (a := x.Grip.a0) (b := x.Grip.a1)
  simp only [F_thalweglaw03_TowBrakes]
  rw [wr_in (n := x.Mass) (by omega) (by omega), wr_in (n := x.Power) (by omega) (by omega), wr_in (n := x.Speed.a0) (by omega) (by omega), wr_in (n := x.Speed.a1) (by omega) (by omega), wr_in (n := x.Sight) (by omega) (by omega),
    wr_in (n := minmax false x.Grip.a0 x.Grip.a1) (by omega) (by omega), wr_in (n := minmax true x.Grip.a0 x.Grip.a1) (by omega) (by omega)]
  generalize x.Power.tmod 19999 = p at *
  generalize x.Speed.a1.tmod 140 = d at *
  generalize minmax false x.Grip.a0 x.Grip.a1 = gl at *
  generalize minmax true x.Grip.a0 x.Grip.a1 = gh at *
  rw [wr_in (n := 5 * x.Mass) (by omega) (by omega), wr_in (n := 1 + p) (by omega) (by omega), wr_in (n := 1 + gl) (by omega) (by omega), wr_in (n := 1 + gh) (by omega) (by omega), wr_in (n := x.Speed.a0 + d) (by omega) (by omega),
    wr_in (n := 5 * x.Mass + x.Sight) (by omega) (by omega), wr_in (n := 1 + p + 1) (by omega) (by omega), wr_in (n := 1 + gh + 3) (by omega) (by omega), wr_in (n := 5 * x.Speed.a0) (by omega) (by omega)]
  generalize hv : x.Speed.a0 = v at *
  generalize hs : x.Sight = s at *
  generalize hm : 5 * x.Mass = m at *
  have c1 : canV m (1 + p) ⟨1 + gl, 1 + gh⟩ = true := canV_iff.2 ⟨by omega, by omega, by simp only; omega, by simp only; omega, by simp only; omega⟩
  have c2 : canV (m + s) (1 + p) ⟨1 + gl, 1 + gh⟩ = true := canV_iff.2 ⟨by omega, by omega, by simp only; omega, by simp only; omega, by simp only; omega⟩
  have c3 : canV m (1 + p + 1) ⟨1 + gl, 1 + gh + 3⟩ = true := canV_iff.2 ⟨by omega, by omega, by simp only; omega, by simp only; omega, by simp only; omega⟩
  have i1 : inB v 0 400 = true := inB_iff.2 (by omega)
  have i2 : inB (v + d) 0 400 = true := inB_iff.2 (by omega)
  obtain ⟨r, hr, he, hf, ht⟩ := Safe_eq c1 (s := s) (by omega)
  have i3 : inB (r : Int) 0 400 = true := inB_iff.2 (by omega)
  simp only [Stop_eq, c1, c2, c3, i1, i2, i3, he, Bool.and_self, cond_true, Option.bind_some, bne_self_eq_false, cond_false]
  obtain ⟨a1, a2⟩ := sp_of c1 (v := v) (by omega)
  obtain ⟨b1, b2⟩ := sp_of c1 (v := v + d) (by omega)
  obtain ⟨e1, e2⟩ := sp_of c2 (v := v) (by omega)
  obtain ⟨g1, g2⟩ := sp_of c3 (v := v) (by omega)
  have q1 := a1.q
  have q2 := a2.q
  have w0 := a1.w.1
  have hsq := sq_mono (m := m) (v := v) (v' := v + d) (by omega) (by omega) (by omega)
  have hms : m * (v * v) ≤ (m + s) * (v * v) := Int.mul_le_mul_of_nonneg_right (by omega) (Int.mul_nonneg (by omega) (by omega))
  have qq1 : (1 + p) * (1 + gl) ≤ (1 + p + 1) * (1 + gl) := Int.mul_le_mul_of_nonneg_right (by omega) (by omega)
  have qq2 : (1 + p) * (1 + gh) ≤ (1 + p + 1) * (1 + gh + 3) := Int.mul_le_mul (by omega) (by omega) (by omega) (by omega)
  have qq3 : (1 + p) * (1 + gl) ≤ (1 + p) * (1 + gh) := Int.mul_le_mul_of_nonneg_left (by omega) (by omega)
  simp only at q1 q2 w0 hsq hms
  have f1 : 0 ≤ (stopB m (1 + p) ⟨1 + gl, 1 + gh⟩ v).Low := lo_nonneg (q := (1 + p) * (1 + gh)) (by omega) a2.n.1
  have f2 : (stopB m (1 + p) ⟨1 + gl, 1 + gh⟩ v).Low ≤ (stopB m (1 + p) ⟨1 + gl, 1 + gh⟩ v).High :=
    Int.le_trans (lo_force (q := (1 + p) * (1 + gl)) (q' := (1 + p) * (1 + gh)) (by omega) qq3 w0) (lo_le_hi (q := (1 + p) * (1 + gl)) (by omega))
  have f3 : (stopB m (1 + p) ⟨1 + gl, 1 + gh⟩ v).Low ≤ (stopB m (1 + p) ⟨1 + gl, 1 + gh⟩ (v + d)).Low := lo_mono (q := (1 + p) * (1 + gh)) (by omega) (by omega) hsq
  have f4 : (stopB m (1 + p) ⟨1 + gl, 1 + gh⟩ v).High ≤ (stopB m (1 + p) ⟨1 + gl, 1 + gh⟩ (v + d)).High := hi_mono (q := (1 + p) * (1 + gl)) (by omega) (by omega) hsq
  have f5 : (stopB m (1 + p) ⟨1 + gl, 1 + gh⟩ v).Low ≤ (stopB (m + s) (1 + p) ⟨1 + gl, 1 + gh⟩ v).Low := lo_mono (q := (1 + p) * (1 + gh)) (by omega) (by omega) hms
  have f6 : (stopB m (1 + p) ⟨1 + gl, 1 + gh⟩ v).High ≤ (stopB (m + s) (1 + p) ⟨1 + gl, 1 + gh⟩ v).High := hi_mono (q := (1 + p) * (1 + gl)) (by omega) (by omega) hms
  have f7 : (stopB m (1 + p + 1) ⟨1 + gl, 1 + gh + 3⟩ v).Low ≤ (stopB m (1 + p) ⟨1 + gl, 1 + gh⟩ v).Low := lo_force (q := (1 + p) * (1 + gh)) (by omega) qq2 w0
  have f8 : (stopB m (1 + p + 1) ⟨1 + gl, 1 + gh + 3⟩ v).High ≤ (stopB m (1 + p) ⟨1 + gl, 1 + gh⟩ v).High := hi_force (q := (1 + p) * (1 + gl)) (by omega) qq1 w0
  have f9 : 5 * v ≤ 3 * (stopB m (1 + p) ⟨1 + gl, 1 + gh⟩ v).High := hi_way (q := (1 + p) * (1 + gl)) (by omega) w0
  have f10 : (stopB m (1 + p) ⟨1 + gl, 1 + gh⟩ v).High ≤ 98560000000000 := by
    refine (hi_le (q := (1 + p) * (1 + gl)) (by omega)).2 (Int.le_trans a1.n.2 ?_)
    omega
  have f11 := hf r (Nat.le_refl r)
  rw [wr_in (n := 3 * (stopB m (1 + p) ⟨1 + gl, 1 + gh⟩ v).High) (by omega) (by omega)]
  rw [decide_eq_false (show ¬ (stopB m (1 + p) ⟨1 + gl, 1 + gh⟩ v).Low < 0 by omega),
    decide_eq_false (show ¬ (stopB m (1 + p) ⟨1 + gl, 1 + gh⟩ v).Low > (stopB m (1 + p) ⟨1 + gl, 1 + gh⟩ v).High by omega),
    decide_eq_false (show ¬ (stopB m (1 + p) ⟨1 + gl, 1 + gh⟩ (v + d)).Low < (stopB m (1 + p) ⟨1 + gl, 1 + gh⟩ v).Low by omega),
    decide_eq_false (show ¬ (stopB m (1 + p) ⟨1 + gl, 1 + gh⟩ (v + d)).High < (stopB m (1 + p) ⟨1 + gl, 1 + gh⟩ v).High by omega),
    decide_eq_false (show ¬ (stopB (m + s) (1 + p) ⟨1 + gl, 1 + gh⟩ v).Low < (stopB m (1 + p) ⟨1 + gl, 1 + gh⟩ v).Low by omega),
    decide_eq_false (show ¬ (stopB (m + s) (1 + p) ⟨1 + gl, 1 + gh⟩ v).High < (stopB m (1 + p) ⟨1 + gl, 1 + gh⟩ v).High by omega),
    decide_eq_false (show ¬ (stopB m (1 + p + 1) ⟨1 + gl, 1 + gh + 3⟩ v).Low > (stopB m (1 + p) ⟨1 + gl, 1 + gh⟩ v).Low by omega),
    decide_eq_false (show ¬ (stopB m (1 + p + 1) ⟨1 + gl, 1 + gh + 3⟩ v).High > (stopB m (1 + p) ⟨1 + gl, 1 + gh⟩ v).High by omega),
    decide_eq_false (show ¬ 3 * (stopB m (1 + p) ⟨1 + gl, 1 + gh⟩ v).High < 5 * v by omega),
    decide_eq_false (show ¬ (r : Int) < 0 by omega), decide_eq_false (show ¬ (r : Int) > 400 by omega),
    decide_eq_false (show ¬ (stopB m (1 + p) ⟨1 + gl, 1 + gh⟩ r).High > s by omega)]
  simp only [cond_false, knownT_eq, Option.bind_some]
  by_cases c : r < 400
  · have i4 : inB ((r + 1 : Nat) : Int) 0 400 = true := inB_iff.2 (by omega)
    have := ht (r + 1) (by omega) (by omega)
    rw [decide_eq_true (show (r : Int) < 400 by omega), wr_nat (by omega)]
    simp only [cond_true, i4, Bool.and_self, bne_self_eq_false, cond_false]
    rw [decide_eq_false (show ¬ (stopB m (1 + p) ⟨1 + gl, 1 + gh⟩ ((r + 1 : Nat) : Int)).High ≤ s by omega)]
    rfl
  · rw [decide_eq_false (show ¬ (r : Int) < 400 by omega)]
    rfl
end Go.Ev
/- Chapter 3: when a tow is where. -/
set_option linter.unusedVariables false
set_option linter.unusedSimpArgs false
namespace Go.Ev
set_option maxHeartbeats 2000000

theorem every_Run {l : List TRun} {p : TRun → Option Bool} {q : TRun → Bool} {g : FuncId} {caps : List V} (hp : ∀ x ∈ l, p x = some (q x)) (hl : l.length ≤ 4611686018427387904) : F_numbers_Every_Run (l, p, g, caps) = some (l.all q) := by
  unfold F_numbers_Every_Run
  simp only
  rw [show (0 : Int) = ((0 : Nat) : Int) from rfl, loop_list l (fun k => (k : Int)) q (e := .inl ()) (f := .inr false)]
  · cases l.all q <;> rfl
  · intro k hk
    simp only [L_numbers_Every_Run_1, Int.ofNat_lt, hk, decide_true, cond_true, idx?_nat hk, Option.bind_some, hp _ (List.getElem_mem hk), wr_nat (show k < 9223372036854775807 by omega)]
    cases q l[k] <;> rfl
  · simp [L_numbers_Every_Run_1]
theorem if_bif {α : Type} (b : Bool) (x y : α) : (if b then x else y) = bif b then x else y := by cases b <;> rfl
def runV (x : TRun) : Bool := (inB x.From 0 100000 && inB x.To 0 100000) && (x.From != x.To && (vB x.Speed 1 400 && vB x.Wait 0 5000))
theorem validRun_eq (x : TRun) : F_tow_validRun x = some (runV x) := by
  simp only [F_tow_validRun, within2, valid_eq, Option.bind_some, bif_and, runV]
def runD (l : List TRun) (k : Nat) : TRun := l.getD k ⟨0, 0, ⟨0, 0⟩, ⟨0, 0⟩⟩
theorem runD_get {l : List TRun} {k : Nat} (h : k < l.length) : l[k] = runD l k := by simp [runD, h]
def dn (x : TRun) : Bool := decide (x.From < x.To)
def jP (l : List TRun) (j : Nat) : Bool := (runD l j).From == (runD l (j - 1)).To && (dn (runD l j) == dn (runD l (j - 1)))
def jOk (l : List TRun) : Bool := (List.range (l.length - 1)).all fun k => jP l (k + 1)
theorem joined_eq {l : List TRun} (hl : l.length ≤ 1000) : F_tow_joined l = some (jOk l) := by
  have h : loopC (L_tow_joined_1 l).step 1 = some (if jOk l then .inl () else .inr false) := by
    refine loop_list (List.range (l.length - 1)) (fun k => ((k + 1 : Nat) : Int)) (fun k => jP l (k + 1)) (fun k hk => ?_) ?_
    · have hk' : k < l.length - 1 := by simpa using hk
      have h1 : k + 1 < l.length := by omega
      have h0 : k < l.length := by omega
      have e : wr (((k + 1 : Nat) : Int) - 1) = (k : Int) := by rw [wr_in (by omega) (by omega)]; omega
      simp only [L_tow_joined_1, Int.ofNat_lt, h1, decide_true, cond_true, idx?_nat h1, Option.bind_some, e, idx?_nat h0, F_tow_down, List.getElem_range, jP, Nat.add_sub_cancel, runD_get h1, runD_get h0, dn]
      rw [wr_nat (by omega)]
      by_cases c : (runD l (k + 1)).From = (runD l k).To
      · simp only [c, bne_self_eq_false, cond_false, beq_self_eq_true, Bool.true_and]
        cases (decide ((runD l k).To < (runD l (k + 1)).To) == decide ((runD l k).From < (runD l k).To)) <;> rfl
      · rw [if_bif, show ((runD l (k + 1)).From != (runD l k).To) = true from by simpa using c, show ((runD l (k + 1)).From == (runD l k).To) = false from by simpa using c]; rfl
    · have : ¬ (((List.range (l.length - 1)).length + 1 : Nat) : Int) < (l.length : Int) ∨ l.length = 0 := by simp; omega
      simp only [L_tow_joined_1]
      rw [decide_eq_false (show ¬ (((List.range (l.length - 1)).length + 1 : Nat) : Int) < (l.length : Int) by rw [List.length_range]; omega)]
      rfl
  simp only [F_tow_joined]
  rw [h]
  cases jOk l <;> rfl
def voyV (v : TVoyage) : Bool := vB v.Start 0 1000000 && (inB (v.Runs.length : Int) 1 20 && (inB v.Length 1 3000 && (inB v.Width 1 200 && (v.Runs.all runV && jOk v.Runs))))
theorem Check_eq (v : TVoyage) : F_tow_Check v = some (bif voyV v then 0 else 2) := by
  simp only [F_tow_Check, valid_eq, within1, Option.bind_some, voyV]
  cases vB v.Start 0 1000000 with
  | false => rfl
  | true =>
    cases hn : inB (v.Runs.length : Int) 1 20 with
    | false => rfl
    | true =>
      have hn := inB_iff.1 hn
      cases inB v.Length 1 3000 with
      | false => rfl
      | true =>
        cases inB v.Width 1 200 with
        | false => rfl
        | true =>
          simp only [Bool.not_true, cond_false, Bool.true_and]
          rw [every_Run (q := runV) (fun x _ => validRun_eq x) (by omega), joined_eq (by omega)]
          cases v.Runs.all runV <;> cases jOk v.Runs <;> rfl
def jR (l : List TRun) (k : Nat) : Bool := runV (runD l k) && (decide (k = 0) || ((runD l k).From == (runD l (k - 1)).To && (dn (runD l k) == dn (runD l 0))))
theorem jR_all {l : List TRun} : (List.range l.length).all (jR l) = (l.all runV && jOk l) := by
  rw [Bool.eq_iff_iff]
  simp only [List.all_eq_true, List.mem_range, Bool.and_eq_true, jOk]
  constructor
  · intro h
    have hd : ∀ k, k < l.length → dn (runD l k) = dn (runD l 0) := by
      intro k hk
      have := h k hk
      simp only [jR, Bool.and_eq_true, Bool.or_eq_true, decide_eq_true_eq, beq_iff_eq] at this
      rcases this.2 with e | e
      · rw [e]
      · exact e.2
    refine ⟨fun x hx => ?_, fun k hk => ?_⟩
    · obtain ⟨k, hk, rfl⟩ := List.getElem_of_mem hx
      have := h k hk
      simp only [jR, Bool.and_eq_true] at this
      rw [runD_get hk]; exact this.1
    · have := h (k + 1) (by omega)
      simp only [jR, Bool.and_eq_true, Bool.or_eq_true, decide_eq_true_eq, beq_iff_eq] at this
      rcases this.2 with e | e
      · omega
      · simp only [jP, Bool.and_eq_true, beq_iff_eq]
        exact ⟨e.1, by rw [e.2, Nat.add_sub_cancel, hd k (by omega)]⟩
  · rintro ⟨h1, h2⟩ k hk
    have hd : ∀ k, k < l.length → dn (runD l k) = dn (runD l 0) := by
      intro k
      induction k with
      | zero => intro _; rfl
      | succ k ih =>
        intro hk
        have := h2 k (by omega)
        simp only [jP, Bool.and_eq_true, beq_iff_eq, Nat.add_sub_cancel] at this
        rw [this.2, ih (by omega)]
    simp only [jR, Bool.and_eq_true, Bool.or_eq_true, decide_eq_true_eq, beq_iff_eq]
    refine ⟨by rw [← runD_get hk]; exact h1 _ (List.getElem_mem hk), ?_⟩
    cases k with
    | zero => exact Or.inl rfl
    | succ k =>
      have := h2 k (by omega)
      simp only [jP, Bool.and_eq_true, beq_iff_eq] at this
      exact Or.inr ⟨this.1, hd _ hk⟩
theorem Voyage_eq (v : TVoyage) : F_thalwegref03_Voyage v = some (voyV v) := by
  simp only [F_thalwegref03_Voyage, rvalid_eq, rin_eq, Option.bind_some, voyV]
  cases vB v.Start 0 1000000 with
  | false => rfl
  | true =>
    cases hn : inB (v.Runs.length : Int) 1 20 with
    | false => rfl
    | true =>
      have hn := inB_iff.1 hn
      cases inB v.Length 1 3000 with
      | false => rfl
      | true =>
        cases inB v.Width 1 200 with
        | false => rfl
        | true =>
          simp only [Bool.not_true, cond_false, Bool.true_and]
          have h : loopC (L_thalwegref03_Voyage_1 v).step 0 = some (if (List.range v.Runs.length).all (jR v.Runs) then .inl () else .inr false) := by
            refine loop_range0 v.Runs.length (jR v.Runs) (fun k hk => ?_) ?_
            · rw [if_bif]
              have h0 : 0 < v.Runs.length := by omega
              have hz : idx? v.Runs 0 = some v.Runs[0] := idx?_nat (k := 0) h0
              simp only [L_thalwegref03_Voyage_1, Int.ofNat_lt, hk, decide_true, cond_true, idx?_nat hk, Option.bind_some, rin_eq, rvalid_eq, hz, runD_get hk, runD_get h0, jR, runV]
              rw [wr_nat (by omega)]
              cases e1 : inB (runD v.Runs k).From 0 100000 with
              | false => rfl
              | true =>
                cases e2 : inB (runD v.Runs k).To 0 100000 with
                | false => rfl
                | true =>
                  by_cases e3 : (runD v.Runs k).From = (runD v.Runs k).To
                  · simp [e3]
                  · rw [show ((runD v.Runs k).From == (runD v.Runs k).To) = false from by simpa using e3, show ((runD v.Runs k).From != (runD v.Runs k).To) = true from by simpa using e3]
                    cases e4 : vB (runD v.Runs k).Speed 1 400 with
                    | false => rfl
                    | true =>
                      cases e5 : vB (runD v.Runs k).Wait 0 5000 with
                      | false => rfl
                      | true =>
                        simp only [Bool.not_true, cond_false, Bool.and_self, Bool.true_and]
                        cases k with
                        | zero => rfl
                        | succ k =>
                          have hk1 : k < v.Runs.length := by omega
                          have e : wr (((k + 1 : Nat) : Int) - 1) = (k : Int) := by rw [wr_in (by omega) (by omega)]; omega
                          rw [decide_eq_true (show ((k + 1 : Nat) : Int) > 0 by omega), e, idx?_nat hk1, runD_get hk1]
                          simp only [cond_true, Option.bind_some, Nat.add_sub_cancel]
                          rw [decide_eq_false (show ¬ k + 1 = 0 by omega)]
                          simp only [Bool.false_or, gt_iff_lt]
                          by_cases c : (runD v.Runs (k + 1)).From = (runD v.Runs k).To
                          · simp only [c, bne_self_eq_false, cond_false, beq_self_eq_true, Bool.true_and, dn]
                            cases (decide ((runD v.Runs k).To < (runD v.Runs (k + 1)).To) == decide ((runD v.Runs 0).From < (runD v.Runs 0).To)) <;> rfl
                          · rw [show ((runD v.Runs (k + 1)).From != (runD v.Runs k).To) = true from by simpa using c, show ((runD v.Runs (k + 1)).From == (runD v.Runs k).To) = false from by simpa using c]; rfl
            · simp [L_thalwegref03_Voyage_1]
          rw [h, jR_all]
          cases v.Runs.all runV && jOk v.Runs <;> rfl
end Go.Ev
/- Chapter 3: the law of arrivals. -/
set_option linter.unusedVariables false
set_option linter.unusedSimpArgs false
namespace Go.Ev
set_option maxHeartbeats 2000000

def dst (a b : Int) : Int := minmax true (b - a) (a - b)
theorem dst_comm (a b : Int) : minmax true (a - b) (b - a) = dst a b := by
  simp only [dst, minmax, if_true]; split <;> split <;> omega
theorem dst_le {a b : Int} (ha : 0 ≤ a ∧ a ≤ 100000) (hb : 0 ≤ b ∧ b ≤ 100000) : 0 ≤ dst a b ∧ dst a b ≤ 100000 := by
  simp only [dst, minmax, if_true]; split <;> omega
def upM (d s : Int) : Int := -((-(60 * d)) / s)
theorem upM_le {d s : Int} (hd : 0 ≤ d ∧ d ≤ 100000) (hs : 1 ≤ s) : 0 ≤ upM d s ∧ upM d s ≤ 6000000 := by
  have h1 := div_bound (a := -(60 * d)) (b := s) (by omega)
  have h2 : 0 ≤ upM d s := by
    unfold upM
    rw [hi_alt (by omega)]
    exact Int.ediv_nonneg (by omega) (by omega)
  unfold upM at *
  omega
def untilB (x : TRun) (place : Int) : TBounds := ⟨x.Wait.Low + upM (dst x.From place) x.Speed.High, x.Wait.High + upM (dst x.From place) x.Speed.Low⟩
structure Rn (x : TRun) : Prop where
  frm : 0 ≤ x.From ∧ x.From ≤ 100000
  to : 0 ≤ x.To ∧ x.To ≤ 100000
  ne : x.From ≠ x.To
  slo : 1 ≤ x.Speed.Low ∧ x.Speed.Low ≤ 400
  shi : 1 ≤ x.Speed.High ∧ x.Speed.High ≤ 400
  sle : x.Speed.Low ≤ x.Speed.High
  wlo : 0 ≤ x.Wait.Low ∧ x.Wait.Low ≤ 5000
  whi : 0 ≤ x.Wait.High ∧ x.Wait.High ≤ 5000
  wle : x.Wait.Low ≤ x.Wait.High
theorem rn_of {x : TRun} (h : runV x = true) : Rn x := by
  simp only [runV, vB, Bool.and_eq_true, inB_iff, decide_eq_true_eq, bne_iff_ne, ne_eq] at h
  obtain ⟨⟨a, b⟩, c, ⟨d, e, f⟩, g, i, j⟩ := h
  exact ⟨a, b, c, e, f, d, i, j, g⟩
theorem until_le {x : TRun} (h : Rn x) {place : Int} (hp : 0 ≤ place ∧ place ≤ 100000) : (0 ≤ (untilB x place).Low ∧ (untilB x place).Low ≤ 6005000) ∧ 0 ≤ (untilB x place).High ∧ (untilB x place).High ≤ 6005000 := by
  have hd := dst_le h.frm hp
  have h1 := upM_le hd h.shi.1
  have h2 := upM_le hd h.slo.1
  have h3 := h.wlo
  have h4 := h.whi
  simp only [untilB]
  omega
theorem until_eq {x : TRun} (h : Rn x) {place : Int} (hp : 0 ≤ place ∧ place ≤ 100000) : F_tow_until (x, place) = some (untilB x place) := by
  have hf := h.frm
  have hd := dst_le hf hp
  have h1 := upM_le hd h.shi.1
  have h2 := upM_le hd h.slo.1
  have h3 := h.wlo
  have h4 := h.whi
  have e : minmax true (place - x.From) (x.From - place) = dst x.From place := rfl
  simp only [F_tow_until]
  rw [wr_in (n := place - x.From) (by omega) (by omega), wr_in (n := x.From - place) (by omega) (by omega), e, wr_in (n := 60 * dst x.From place) (by omega) (by omega),
    Up_eq (b := x.Speed.High) (by have := h.shi; omega) (by omega), Up_eq (b := x.Speed.Low) (by have := h.slo; omega) (by omega)]
  simp only [Option.bind_some]
  unfold upM at h1 h2
  rw [wr_in (n := x.Wait.Low + _) (by omega) (by omega), wr_in (n := x.Wait.High + _) (by omega) (by omega)]
  rfl
theorem minutes_eq {a b s : Int} (ha : 0 ≤ a ∧ a ≤ 100000) (hb : 0 ≤ b ∧ b ≤ 100000) (hs : 1 ≤ s ∧ s ≤ 400) : F_thalwegref03_minutes (a, b, s) = some (upM (dst a b) s) := by
  have hd := dst_le ha hb
  have h1 := upM_le hd hs.1
  simp only [F_thalwegref03_minutes, nz_of (show s ≠ 0 by omega), Option.bind_some]
  rw [wr_in (n := a - b) (by omega) (by omega), wr_in (n := b - a) (by omega) (by omega), dst_comm, wr_in (n := 60 * dst a b) (by omega) (by omega), wr_in (n := 60 * dst a b + s) (by omega) (by omega), wr_in (n := 60 * dst a b + s - 1) (by omega) (by omega),
    Int.tdiv_eq_ediv_of_nonneg (by omega), ← hi_alt (by omega)]
  exact congrArg some (wr_in (n := upM (dst a b) s) (by omega) (by omega))
theorem Sum2 {p q : TBounds} (h1 : 0 ≤ p.Low ∧ p.Low ≤ 1000000000) (h2 : 0 ≤ p.High ∧ p.High ≤ 1000000000) (h3 : 0 ≤ q.Low ∧ q.Low ≤ 1000000000) (h4 : 0 ≤ q.High ∧ q.High ≤ 1000000000) : F_numbers_Sum [p, q] = some ⟨p.Low + q.Low, p.High + q.High⟩ := by
  have e1 : (L_numbers_Sum_1 [p, q]).step (0, 0, 0) = some (.inl (1, p.Low, p.High)) := by
    have : idx? [p, q] 0 = some p := idx?_nat (l := [p, q]) (k := 0) (by simp)
    simp only [L_numbers_Sum_1, this, Option.bind_some]
    rw [wr_in (n := 0 + p.Low) (by omega) (by omega), wr_in (n := 0 + p.High) (by omega) (by omega)]
    simp only [Int.zero_add]
    rfl
  have e2 : (L_numbers_Sum_1 [p, q]).step (1, p.Low, p.High) = some (.inl (2, p.Low + q.Low, p.High + q.High)) := by
    have : idx? [p, q] 1 = some q := idx?_nat (l := [p, q]) (k := 1) (by simp)
    simp only [L_numbers_Sum_1, this, Option.bind_some]
    rw [wr_in (n := p.Low + q.Low) (by omega) (by omega), wr_in (n := p.High + q.High) (by omega) (by omega)]
    rfl
  have e3 : (L_numbers_Sum_1 [p, q]).step (2, p.Low + q.Low, p.High + q.High) = some (.inr (p.Low + q.Low, p.High + q.High)) := rfl
  simp only [F_numbers_Sum]
  rw [loopC_eq, e1]
  simp only
  rw [loopC_eq, e2]
  simp only
  rw [loopC_eq, e3]
  rfl
theorem covers1 (a b n : Int) : F_tow_covers (a, b, [n]) = some (inB n (minmax false a b) (minmax true a b)) := by
  simp only [F_tow_covers, within1, Option.bind_some]
theorem between_eq (n a b : Int) : F_thalwegref03_between (n, a, b) = some (inB n (minmax false a b) (minmax true a b)) := by
  simp only [F_thalwegref03_between, ge_iff_le, bif_and, inB]
theorem btw_end (a b : Int) : inB b (minmax false a b) (minmax true a b) = true ∧ inB a (minmax false a b) (minmax true a b) = true := by
  simp only [inB_iff, minmax, if_true, Bool.false_eq_true, if_false]
  refine ⟨?_, ?_⟩ <;> split <;> split <;> omega
def aGo (place : Int) : List TRun → Int → Int → Int × Int
  | [], lo, hi => (lo, hi)
  | x :: m, lo, hi => if place = x.From then (lo, hi) else if inB place (minmax false x.From x.To) (minmax true x.From x.To) then (lo + (untilB x place).Low, hi + (untilB x place).High) else aGo place m (lo + (untilB x x.To).Low) (hi + (untilB x x.To).High)
structure Vy (v : TVoyage) : Prop where
  start : (0 ≤ v.Start.Low ∧ v.Start.Low ≤ 1000000) ∧ (0 ≤ v.Start.High ∧ v.Start.High ≤ 1000000)
  sle : v.Start.Low ≤ v.Start.High
  runs : 1 ≤ v.Runs.length ∧ v.Runs.length ≤ 20
  len : 1 ≤ v.Length ∧ v.Length ≤ 3000
  each : ∀ x ∈ v.Runs, Rn x
  join : ∀ k, k + 1 < v.Runs.length → (runD v.Runs (k + 1)).From = (runD v.Runs k).To
  dirs : ∀ k, k + 1 < v.Runs.length → dn (runD v.Runs (k + 1)) = dn (runD v.Runs k)
theorem vy_of {v : TVoyage} (h : voyV v = true) : Vy v := by
  simp only [voyV, vB, Bool.and_eq_true, inB_iff, decide_eq_true_eq, List.all_eq_true, jOk, List.mem_range, jP, beq_iff_eq] at h
  obtain ⟨⟨a, b, c⟩, d, e, f, g, i⟩ := h
  exact ⟨⟨b, c⟩, a, by omega, e, fun x hx => rn_of (g x hx), fun k hk => (i k (by omega)).1, fun k hk => (i k (by omega)).2⟩
theorem arrive_loop {v : TVoyage} (hv : Vy v) {place : Int} (hp : 0 ≤ place ∧ place ≤ 100000) : ∀ (m : List TRun) (k : Nat) (bow lo hi : Int), v.Runs.drop k = m → (∀ x m', m = x :: m' → bow = x.From) → 0 ≤ lo → lo ≤ 1000000 + 6005000 * k → 0 ≤ hi → hi ≤ 1000000 + 6005000 * k →
    loopC (L_tow_arrive_1 place v).step (bow, (k : Int), lo, hi) = some (aGo place m lo hi)
  | [], k, bow, lo, hi, h, _, _, _, _, _ => by
    have := drop_nil h
    rw [loopC_eq]
    simp [L_tow_arrive_1, show ¬ k < v.Runs.length by omega, aGo]
  | x :: m, k, bow, lo, hi, h, hb, l0, l1, h0, h1 => by
    obtain ⟨hk1, hg, hd⟩ := drop_cons h
    have hn := hv.runs
    have hx : Rn x := by rw [← hg]; exact hv.each _ (List.getElem_mem hk1)
    have hbow := hb x m rfl
    subst hbow
    rw [loopC_eq]
    generalize hLL : loopC (L_tow_arrive_1 place v).step = LL
    simp only [L_tow_arrive_1, Int.ofNat_lt, hk1, decide_true, cond_true, idx?_nat hk1, hg, Option.bind_some, covers1]
    rw [aGo]
    by_cases c : place = x.From
    · subst c
      simp
    · rw [if_neg c, show (x.From == place) = false from by rw [beq_eq_false_iff_ne]; exact fun e => c e.symm]
      have hu := until_le hx hp
      have ht := until_le hx hx.to
      cases c2 : inB place (minmax false x.From x.To) (minmax true x.From x.To) with
      | true =>
        simp only [cond_false, cond_true, until_eq hx hp, Option.bind_some, if_true]
        rw [Sum2 (by simp only; omega) (by simp only; omega) (by omega) (by omega)]
        simp only [Option.bind_some]
        subst hLL
        rw [wr_nat (by omega), loopC_eq]
        by_cases c3 : k + 1 < v.Runs.length
        · simp only [L_tow_arrive_1, Int.ofNat_lt, c3, decide_true, cond_true, idx?_nat c3, Option.bind_some, beq_self_eq_true]
        · simp only [L_tow_arrive_1, Int.ofNat_lt, c3, decide_false, cond_false]
      | false =>
        simp only [cond_false, until_eq hx hx.to, Option.bind_some, Bool.false_eq_true, if_false]
        rw [Sum2 (by simp only; omega) (by simp only; omega) (by omega) (by omega)]
        simp only [Option.bind_some]
        subst hLL
        rw [wr_nat (by omega)]
        refine arrive_loop hv hp m (k + 1) x.To _ _ hd ?_ (by omega) (by omega) (by omega) (by omega)
        intro y m' hy
        subst hy
        obtain ⟨hk2, hg2, _⟩ := drop_cons hd
        have := hv.join k hk2
        rw [← runD_get hk2, ← runD_get hk1, hg, hg2] at this
        exact this.symm
theorem rarrive_loop {v : TVoyage} (hv : Vy v) {place : Int} (hp : 0 ≤ place ∧ place ≤ 100000) : ∀ (m : List TRun) (k : Nat) (lo hi : Int), v.Runs.drop k = m → 0 ≤ lo → lo ≤ 1000000 + 6005000 * k → 0 ≤ hi → hi ≤ 1000000 + 6005000 * k →
    loopC (L_thalwegref03_Arrive_1 place v).step ((k : Int), lo, hi) = some (.inl (aGo place m lo hi)) ∨ loopC (L_thalwegref03_Arrive_1 place v).step ((k : Int), lo, hi) = some (.inr ⟨(aGo place m lo hi).1, (aGo place m lo hi).2⟩)
  | [], k, lo, hi, h, _, _, _, _ => by
    have := drop_nil h
    refine Or.inl ?_
    rw [loopC_eq]
    simp [L_thalwegref03_Arrive_1, show ¬ k < v.Runs.length by omega, aGo]
  | x :: m, k, lo, hi, h, l0, l1, h0, h1 => by
    obtain ⟨hk1, hg, hd⟩ := drop_cons h
    have hn := hv.runs
    have hx : Rn x := by rw [← hg]; exact hv.each _ (List.getElem_mem hk1)
    rw [loopC_eq]
    generalize hLL : loopC (L_thalwegref03_Arrive_1 place v).step = LL
    simp only [L_thalwegref03_Arrive_1, Int.ofNat_lt, hk1, decide_true, cond_true, idx?_nat hk1, hg, Option.bind_some, between_eq]
    rw [aGo]
    by_cases c : place = x.From
    · subst c
      exact Or.inr (by simp)
    · rw [if_neg c, show (place == x.From) = false from by rw [beq_eq_false_iff_ne]; exact c]
      have hu := until_le hx hp
      have ht := until_le hx hx.to
      cases c2 : inB place (minmax false x.From x.To) (minmax true x.From x.To) with
      | true =>
        simp only [cond_false, cond_true, minutes_eq hx.frm hp hx.shi, minutes_eq hx.frm hp hx.slo, Option.bind_some, if_true, beq_self_eq_true]
        simp only [untilB] at hu ⊢
        rw [wr_in (n := x.Wait.Low + _) (by omega) (by omega), wr_in (n := x.Wait.High + _) (by omega) (by omega), wr_in (n := lo + _) (by omega) (by omega), wr_in (n := hi + _) (by omega) (by omega)]
        exact Or.inr rfl
      | false =>
        have c3 : x.To ≠ place := by
          intro e
          have := (btw_end x.From x.To).1
          rw [e] at this
          rw [e, this] at c2
          cases c2
        simp only [cond_false, minutes_eq hx.frm hx.to hx.shi, minutes_eq hx.frm hx.to hx.slo, Option.bind_some, Bool.false_eq_true, if_false, show (x.To == place) = false from by rw [beq_eq_false_iff_ne]; exact c3]
        have ih := rarrive_loop hv hp m (k + 1) (lo + (untilB x x.To).Low) (hi + (untilB x x.To).High) hd (by omega) (by omega) (by omega) (by omega)
        rw [hLL] at ih
        simp only [untilB] at hu ht ih ⊢
        rw [wr_in (n := x.Wait.Low + _) (by omega) (by omega), wr_in (n := x.Wait.High + _) (by omega) (by omega), wr_in (n := lo + _) (by omega) (by omega), wr_in (n := hi + _) (by omega) (by omega), wr_nat (by omega)]
        exact ih
def arrB (v : TVoyage) (place : Int) : TBounds := ⟨(aGo place v.Runs v.Start.Low v.Start.High).1, (aGo place v.Runs v.Start.Low v.Start.High).2⟩
theorem arrive_eq {v : TVoyage} (hv : Vy v) {place : Int} (hp : 0 ≤ place ∧ place ≤ 100000) : F_tow_arrive (v, place) = some (arrB v place) ∧ F_thalwegref03_Arrive (v, place) = some (arrB v place) := by
  have hn := hv.runs
  have hs := hv.start
  have h0 : 0 < v.Runs.length := by omega
  have hz : idx? v.Runs 0 = some v.Runs[0] := idx?_nat (k := 0) h0
  refine ⟨?_, ?_⟩
  · simp only [F_tow_arrive, hz, Option.bind_some]
    have := arrive_loop hv hp v.Runs 0 v.Runs[0].From v.Start.Low v.Start.High rfl (fun x m h => by simp only [h, List.getElem_cons_zero]) (by omega) (by omega) (by omega) (by omega)
    have this : loopC (L_tow_arrive_1 place v).step (v.Runs[0].From, 0, v.Start.Low, v.Start.High) = _ := this
    rw [this]
    rfl
  · simp only [F_thalwegref03_Arrive]
    rcases rarrive_loop hv hp v.Runs 0 v.Start.Low v.Start.High rfl (by omega) (by omega) (by omega) (by omega) with this | this
    · have this : loopC (L_thalwegref03_Arrive_1 place v).step (0, v.Start.Low, v.Start.High) = _ := this
      rw [this]
      rfl
    · have this : loopC (L_thalwegref03_Arrive_1 place v).step (0, v.Start.Low, v.Start.High) = _ := this
      rw [this]
      rfl
def endsOf (v : TVoyage) : Int × Int := ((runD v.Runs 0).From, (runD v.Runs (v.Runs.length - 1)).To)
theorem ends_eq {v : TVoyage} (hv : Vy v) : F_tow_ends v = some (endsOf v) ∧ F_thalwegref03_Ends v = some (endsOf v) := by
  have hn := hv.runs
  have h0 : 0 < v.Runs.length := by omega
  have h1 : v.Runs.length - 1 < v.Runs.length := by omega
  have hz : idx? v.Runs 0 = some v.Runs[0] := idx?_nat (k := 0) h0
  have e : wr ((v.Runs.length : Int) - 1) = ((v.Runs.length - 1 : Nat) : Int) := by rw [wr_in (by omega) (by omega)]; omega
  simp only [F_tow_ends, F_thalwegref03_Ends, hz, e, idx?_nat h1, Option.bind_some, endsOf, runD_get h0, runD_get h1]
  exact ⟨trivial, trivial⟩
def onW (v : TVoyage) (n : Int) : Bool := inB n (minmax false (endsOf v).1 (endsOf v).2) (minmax true (endsOf v).1 (endsOf v).2)
theorem onWay_eq {v : TVoyage} (hv : Vy v) (n : Int) : F_tow_onWay (v, [n]) = some (onW v n) := by
  simp only [F_tow_onWay, (ends_eq hv).1, covers1, Option.bind_some, onW]
theorem On_eq {v : TVoyage} (hv : Vy v) (n : Int) : F_thalwegref03_On (v, n) = some (onW v n) := by
  simp only [F_thalwegref03_On, (ends_eq hv).2, between_eq, Option.bind_some, onW]
theorem ends_in {v : TVoyage} (hv : Vy v) : (0 ≤ (endsOf v).1 ∧ (endsOf v).1 ≤ 100000) ∧ 0 ≤ (endsOf v).2 ∧ (endsOf v).2 ≤ 100000 := by
  have hn := hv.runs
  have h0 : 0 < v.Runs.length := by omega
  have h1 : v.Runs.length - 1 < v.Runs.length := by omega
  refine ⟨?_, ?_⟩
  · show 0 ≤ (runD v.Runs 0).From ∧ (runD v.Runs 0).From ≤ 100000
    rw [← runD_get h0]; exact (hv.each _ (List.getElem_mem h0)).frm
  · show 0 ≤ (runD v.Runs (v.Runs.length - 1)).To ∧ (runD v.Runs (v.Runs.length - 1)).To ≤ 100000
    rw [← runD_get h1]; exact (hv.each _ (List.getElem_mem h1)).to
theorem onW_in {v : TVoyage} (hv : Vy v) {n : Int} (h : onW v n = true) : 0 ≤ n ∧ n ≤ 100000 := by
  obtain ⟨a, b⟩ := ends_in hv
  have c := minmax_in false a b
  have d := minmax_in true a b
  have := inB_iff.1 h
  omega
theorem Arrive_eq (v : TVoyage) (n : Int) : F_tow_Arrive (v, n) = some (bif voyV v then (bif onW v n then (arrB v n, 0) else (⟨0, 0⟩, 7)) else (⟨0, 0⟩, 2)) := by
  simp only [F_tow_Arrive, Check_eq, Option.bind_some]
  cases h : voyV v with
  | false => rfl
  | true =>
    have hv := vy_of h
    simp only [cond_true, bne_self_eq_false, cond_false, onWay_eq hv, Option.bind_some]
    cases ho : onW v n with
    | false => rfl
    | true => simp only [Bool.not_true, cond_false, (arrive_eq hv (onW_in hv ho)).1, Option.bind_some, cond_true]
theorem copiedV_eq {v : TVoyage} (h : v.Runs.length ≤ 1000) : F_thalweglaw03_copied v = some v := by
  simp only [F_thalweglaw03_copied]
  rw [app_nil (m := v.Runs) (by omega) (by decide)]
  rfl
theorem unchanged_self {v : TVoyage} (h : v.Runs.length ≤ 1000) : F_thalweglaw03_unchanged ([v], [v]) = some true := by
  have i0 : idx? [v] 0 = some v := idx?_nat (l := [v]) (k := 0) (by simp)
  have h1 : loopC (L_thalweglaw03_unchanged_1 [v] [v] 0).step 0 = some (.inl ()) := by
    rw [show loopC (L_thalweglaw03_unchanged_1 [v] [v] 0).step 0 = loopC (L_thalweglaw03_unchanged_1 [v] [v] 0).step ((fun k : Nat => (k : Int)) 0) from rfl]
    refine loop_run (fun k : Nat => (k : Int)) v.Runs.length (fun j hj => ?_) ?_
    · simp only [L_thalweglaw03_unchanged_1, i0, Option.bind_some, Int.ofNat_lt, hj, decide_true, cond_true, idx?_nat hj, beq_self_eq_true, Bool.and_self, Bool.not_true, cond_false]
      rw [wr_nat (by omega)]
    · simp [L_thalweglaw03_unchanged_1, i0]
  have h2 : loopC (L_thalweglaw03_unchanged_2 [v] [v]).step 0 = some (.inl ()) := by
    have e1 : (L_thalweglaw03_unchanged_2 [v] [v]).step 0 = some (.inl 1) := by
      simp only [L_thalweglaw03_unchanged_2, i0, Option.bind_some, beq_self_eq_true, Bool.and_self, Bool.not_true, cond_false, bne_self_eq_false, h1]
      rfl
    have e2 : (L_thalweglaw03_unchanged_2 [v] [v]).step 1 = some (.inr (.inl ())) := rfl
    rw [loopC_eq, e1]
    simp only
    rw [loopC_eq, e2]
  simp only [F_thalweglaw03_unchanged, bne_self_eq_false, cond_false]
  rw [h2]
  rfl
theorem arrives_true (v : TVoyage) (n : Int) : F_thalweglaw03_TowArrives (v, n) = some true := by
  simp only [F_thalweglaw03_TowArrives, knownT_eq, Option.bind_some]
  by_cases c : (v.Runs.length : Int) > 25
  · rw [decide_eq_true c]; rfl
  · rw [decide_eq_false c]
    simp only [cond_false, copiedV_eq (show v.Runs.length ≤ 1000 by omega), Option.bind_some, Check_eq, Arrive_eq, unchanged_self (show v.Runs.length ≤ 1000 by omega), Bool.not_true, Voyage_eq]
    cases h : voyV v with
    | false => rfl
    | true =>
      have hv := vy_of h
      simp only [On_eq hv, Option.bind_some, cond_true, Bool.not_true, cond_false]
      cases ho : onW v n with
      | false => rfl
      | true => simp only [Bool.not_true, cond_false, cond_true, beq_self_eq_true, (arrive_eq hv (onW_in hv ho)).2, Option.bind_some, Bool.and_self]
end Go.Ev
/- Chapter 3: the law of narrows. -/
set_option linter.unusedVariables false
set_option linter.unusedSimpArgs false
namespace Go.Ev
set_option maxHeartbeats 2000000

def narV (n : TNarrow) : Bool := (inB n.From 0 100000 && inB n.To 0 100000) && (decide (n.From < n.To) && inB n.Width 1 200)
theorem validNarrow_eq (n : TNarrow) : F_tow_validNarrow n = some (narV n) := by
  simp only [F_tow_validNarrow, within2, within1, Option.bind_some, bif_and, narV]
theorem rNarrow_eq (n : TNarrow) : F_thalwegref03_Narrow n = some (narV n) := by
  simp only [F_thalwegref03_Narrow, rin_eq, Option.bind_some, bif_and, narV]
  cases h : inB n.From 0 100000 with
  | false => rfl
  | true =>
    have h := inB_iff.1 h
    rw [wr_in (n := n.From + 1) (by omega) (by omega)]
    simp only [cond_true, Option.some.injEq, Bool.true_and]
    rw [Bool.eq_iff_iff]
    simp only [Bool.and_eq_true, inB_iff, decide_eq_true_eq]
    omega
theorem nar_of {n : TNarrow} (h : narV n = true) : (0 ≤ n.From ∧ n.From ≤ 100000) ∧ (0 ≤ n.To ∧ n.To ≤ 100000) ∧ n.From < n.To := by
  simp only [narV, Bool.and_eq_true, inB_iff, decide_eq_true_eq] at h
  exact ⟨h.1.1, h.1.2, h.2.1⟩
def tl (v : TVoyage) : Int := -((-v.Length) / 100)
theorem tl_in {v : TVoyage} (hv : Vy v) : 1 ≤ tl v ∧ tl v ≤ 30 := by
  have := hv.len
  unfold tl
  omega
/-- A voyage goes down as its first run does. -/
theorem ends_dir {v : TVoyage} (hv : Vy v) : dn (runD v.Runs 0) = decide ((endsOf v).1 < (endsOf v).2) ∧ (endsOf v).1 ≠ (endsOf v).2 := by
  have hn := hv.runs
  have hr : ∀ k, k < v.Runs.length → Rn (runD v.Runs k) := fun k hk => by rw [← runD_get hk]; exact hv.each _ (List.getElem_mem hk)
  have key : ∀ k, k < v.Runs.length → dn (runD v.Runs k) = dn (runD v.Runs 0) ∧ (bif dn (runD v.Runs 0) then decide ((runD v.Runs 0).From < (runD v.Runs k).To) else decide ((runD v.Runs k).To < (runD v.Runs 0).From)) = true := by
    intro k
    induction k with
    | zero =>
      intro hk
      have := (hr 0 hk).ne
      refine ⟨rfl, ?_⟩
      cases h : dn (runD v.Runs 0) with
      | true => exact h
      | false =>
        have := of_decide_eq_false h
        exact decide_eq_true (by omega)
    | succ k ih =>
      intro hk
      obtain ⟨h1, h2⟩ := ih (by omega)
      have h3 := hv.dirs k hk
      have h4 := hv.join k hk
      have h5 := (hr (k + 1) hk).ne
      refine ⟨by rw [h3, h1], ?_⟩
      have h6 : dn (runD v.Runs (k + 1)) = dn (runD v.Runs 0) := by rw [h3, h1]
      cases h : dn (runD v.Runs 0) with
      | true =>
        rw [h] at h2 h6
        have a := of_decide_eq_true h2
        have b := of_decide_eq_true h6
        exact decide_eq_true (by omega)
      | false =>
        rw [h] at h2 h6
        have a := of_decide_eq_true h2
        have b := of_decide_eq_false h6
        exact decide_eq_true (by omega)
  have hk := (key (v.Runs.length - 1) (by omega)).2
  simp only [endsOf]
  cases h : dn (runD v.Runs 0) with
  | true =>
    rw [h] at hk
    have hk := of_decide_eq_true hk
    exact ⟨(decide_eq_true hk).symm, by omega⟩
  | false =>
    rw [h] at hk
    have hk := of_decide_eq_true hk
    exact ⟨(decide_eq_false (by omega)).symm, by omega⟩
theorem onWay2 {v : TVoyage} (hv : Vy v) (a b : Int) : F_tow_onWay (v, [a, b]) = some (onW v a && onW v b) := by
  simp only [F_tow_onWay, (ends_eq hv).1, F_tow_covers, within2, Option.bind_some, onW]
def noStay : Ttow_stay := ⟨⟨0, 0⟩, ⟨0, 0⟩, false⟩
theorem mm_lt {a b : Int} (h : a < b) : minmax false a b = a ∧ minmax true a b = b ∧ minmax false b a = a ∧ minmax true b a = b := by
  simp only [minmax, if_true, Bool.false_eq_true, if_false]
  refine ⟨?_, ?_, ?_, ?_⟩ <;> split <;> omega
/-- Both say the same of a narrow. -/
theorem visit_eq {v : TVoyage} (h : voyV v = true) {n : TNarrow} (hn : narV n = true) : ∃ s e, F_tow_visit (v, n) = some (s, e) ∧ F_thalwegref03_Through (v, n) = some (s.in_, s.out_, s.passes_, e) ∧ (e = 0 ∨ e = 9) := by
  have hv := vy_of h
  have hr := hv.runs
  have hl := hv.len
  obtain ⟨n1, n2, n3⟩ := nar_of hn
  have ht := tl_in hv
  have ⟨d1, d2⟩ := ends_dir hv
  obtain ⟨i1, i2⟩ := ends_in hv
  have h0 : 0 < v.Runs.length := by omega
  have hz : idx? v.Runs 0 = some v.Runs[0] := idx?_nat (k := 0) h0
  have eu : F_numbers_Up (v.Length, 100) = some (tl v) := Up_eq (by decide) (by omega)
  have et : wr (Int.tdiv (wr (v.Length + 99)) 100) = tl v := by
    rw [wr_in (n := v.Length + 99) (by omega) (by omega), Int.tdiv_eq_ediv_of_nonneg (by omega)]
    unfold tl
    rw [hi_alt (by decide), wr_in (by omega) (by omega)]
    congr 1
    omega
  have w1 : wr (n.To + tl v) = n.To + tl v := wr_in (by omega) (by omega)
  have w2 : wr (n.From - tl v) = n.From - tl v := wr_in (by omega) (by omega)
  have hd : F_tow_down v.Runs[0] = some (decide ((endsOf v).1 < (endsOf v).2)) := by
    rw [runD_get h0, ← d1]; rfl
  simp only [F_tow_visit, Check_eq, h, cond_true, Option.bind_some, bne_self_eq_false, cond_false, validNarrow_eq, hn, Bool.not_true, F_tow_gates, eu, hz, hd, w1, w2, F_thalwegref03_Through, (ends_eq hv).2, et, On_eq hv]
  by_cases c : (endsOf v).1 < (endsOf v).2
  · obtain ⟨m1, m2, _, _⟩ := mm_lt c
    have g := mm_lt (show n.From < n.To + tl v by omega)
    rw [decide_eq_true c, decide_eq_false (show ¬ (endsOf v).2 < (endsOf v).1 by omega)]
    simp only [cond_true, Option.bind_some, cond_false, onWay2 hv, F_tow_near, (ends_eq hv).1, m1, m2, g.1, g.2.1]
    by_cases c1 : (endsOf v).1 < n.To + tl v
    · rw [decide_eq_true c1]
      by_cases c2 : (endsOf v).2 > n.From
      · rw [decide_eq_true c2]
        cases o1 : onW v n.From with
        | false => exact ⟨noStay, 9, rfl, rfl, Or.inr rfl⟩
        | true =>
          cases o2 : onW v (n.To + tl v) with
          | false => exact ⟨noStay, 9, rfl, rfl, Or.inr rfl⟩
          | true =>
            simp only [Bool.and_self, cond_true, Bool.not_true, cond_false, (arrive_eq hv (onW_in hv o1)).1, (arrive_eq hv (onW_in hv o1)).2, (arrive_eq hv (onW_in hv o2)).1, (arrive_eq hv (onW_in hv o2)).2, Option.bind_some]
            exact ⟨_, _, rfl, rfl, Or.inl rfl⟩
      · rw [decide_eq_false c2]
        have o : onW v (n.To + tl v) = false := by
          rw [Bool.eq_false_iff]; intro o
          have := inB_iff.1 o
          rw [m1, m2] at this
          omega
        rw [o, Bool.and_false]
        exact ⟨noStay, 0, rfl, rfl, Or.inl rfl⟩
    · rw [decide_eq_false c1]
      have o : onW v n.From = false := by
        rw [Bool.eq_false_iff]; intro o
        have := inB_iff.1 o
        rw [m1, m2] at this
        omega
      rw [o, Bool.false_and]
      exact ⟨noStay, 0, rfl, rfl, Or.inl rfl⟩
  · have c' : (endsOf v).2 < (endsOf v).1 := by omega
    obtain ⟨_, _, m1, m2⟩ := mm_lt c'
    have g := mm_lt (show n.From - tl v < n.To by omega)
    rw [decide_eq_false c, decide_eq_true c']
    simp only [cond_true, Option.bind_some, cond_false, onWay2 hv, F_tow_near, (ends_eq hv).1, m1, m2, g.2.2.1, g.2.2.2]
    have key : ∀ (X : Option (TBounds × TBounds × Bool × Int)), (bif decide ((endsOf v).1 < n.To + tl v) then X else X) = X := by intro X; cases decide ((endsOf v).1 < n.To + tl v) <;> rfl
    rw [key]
    by_cases c1 : (endsOf v).1 > n.From - tl v
    · rw [decide_eq_true c1]
      by_cases c2 : (endsOf v).2 < n.To
      · rw [decide_eq_true c2]
        cases o1 : onW v n.To with
        | false => exact ⟨noStay, 9, rfl, rfl, Or.inr rfl⟩
        | true =>
          cases o2 : onW v (n.From - tl v) with
          | false => exact ⟨noStay, 9, rfl, rfl, Or.inr rfl⟩
          | true =>
            simp only [Bool.and_self, cond_true, Bool.not_true, cond_false, (arrive_eq hv (onW_in hv o1)).1, (arrive_eq hv (onW_in hv o1)).2, (arrive_eq hv (onW_in hv o2)).1, (arrive_eq hv (onW_in hv o2)).2, Option.bind_some]
            exact ⟨_, _, rfl, rfl, Or.inl rfl⟩
      · rw [decide_eq_false c2]
        have o : onW v (n.From - tl v) = false := by
          rw [Bool.eq_false_iff]; intro o
          have := inB_iff.1 o
          rw [m1, m2] at this
          omega
        rw [o, Bool.and_false]
        exact ⟨noStay, 0, rfl, rfl, Or.inl rfl⟩
    · rw [decide_eq_false c1]
      have o : onW v n.To = false := by
        rw [Bool.eq_false_iff]; intro o
        have := inB_iff.1 o
        rw [m1, m2] at this
        omega
      rw [o, Bool.false_and]
      refine ⟨noStay, 0, ?_, rfl, Or.inl rfl⟩
      cases decide ((endsOf v).2 < n.To) <;> rfl
theorem visit_bad (v : TVoyage) (n : TNarrow) (h : voyV v = false ∨ narV n = false) : F_tow_visit (v, n) = some (noStay, 2) := by
  simp only [F_tow_visit, Check_eq, Option.bind_some, validNarrow_eq]
  cases hv : voyV v with
  | false => rfl
  | true =>
    rcases h with h | h
    · rw [h] at hv; cases hv
    · rw [h]; rfl
theorem through_true (a b : TVoyage) (n : TNarrow) : F_thalweglaw03_TowThrough (a, b, n) = some true := by
  simp only [F_thalweglaw03_TowThrough, knownT_eq, Option.bind_some]
  by_cases c : (a.Runs.length : Int) > 25
  · rw [decide_eq_true c]; rfl
  · by_cases c' : (b.Runs.length : Int) > 25
    · rw [decide_eq_false c, decide_eq_true c']; rfl
    · rw [decide_eq_false c, decide_eq_false c']
      simp only [cond_false, copiedV_eq (show a.Runs.length ≤ 1000 by omega), copiedV_eq (show b.Runs.length ≤ 1000 by omega), Option.bind_some, Voyage_eq, rNarrow_eq, F_tow_Through, F_tow_Meet, Check_eq]
      cases ha : voyV a with
      | false =>
        simp only [visit_bad a n (Or.inl ha), Option.bind_some]
        rfl
      | true =>
        cases hn : narV n with
        | false =>
          simp only [visit_bad a n (Or.inr hn), Option.bind_some]
          cases voyV b <;> rfl
        | true =>
          obtain ⟨s, e, h1, h2, he⟩ := visit_eq ha hn
          simp only [h1, h2, Option.bind_some, cond_true, bne_self_eq_false, cond_false, Bool.not_true, beq_self_eq_true, Bool.and_self]
          cases hb : voyV b with
          | false => rfl
          | true =>
            obtain ⟨t, f, g1, g2, hf⟩ := visit_eq hb hn
            simp only [g1, g2, F_thalwegref03_Meet, h2, Option.bind_some, cond_true, bne_self_eq_false, cond_false, Bool.not_true]
            rcases he with rfl | rfl
            · rcases hf with rfl | rfl
              · simp only [bne_self_eq_false, cond_false, F_tow_mayMeet, F_tow_mustMeet]
                cases s.passes_ <;> cases t.passes_ <;> simp only [cond_true, cond_false, Option.bind_some, Bool.not_true, Bool.not_false, beq_self_eq_true]
                cases decide (s.in_.Low ≤ t.out_.High) <;> cases decide (s.in_.High ≤ t.out_.Low) <;> simp
              · rfl
            · rfl
end Go.Ev
/- Chapter 3: true times. -/
set_option linter.unusedVariables false
set_option linter.unusedSimpArgs false
namespace Go.Ev
set_option maxHeartbeats 2000000

def pickV (b : TBounds) (y : Int) : Int := b.Low + (b.High - b.Low) * y / 255
theorem pick_in {b : TBounds} (h : b.Low ≤ b.High) {y : Int} (hy : 0 ≤ y ∧ y ≤ 255) : b.Low ≤ pickV b y ∧ pickV b y ≤ b.High := by
  have h1 : 0 ≤ (b.High - b.Low) * y := Int.mul_nonneg (by omega) hy.1
  have h2 : (b.High - b.Low) * y ≤ (b.High - b.Low) * 255 := Int.mul_le_mul_of_nonneg_left hy.2 (by omega)
  unfold pickV
  generalize (b.High - b.Low) * y = w at *
  omega
theorem pick_eq {b : TBounds} (h : b.Low ≤ b.High) (h0 : 0 ≤ b.Low) (h1 : b.High ≤ 1000000) {y : Int} (hy : 0 ≤ y ∧ y ≤ 255) : F_thalweglaw03_pick (b, y) = some (pickV b y) := by
  have g1 : 0 ≤ (b.High - b.Low) * y := Int.mul_nonneg (by omega) hy.1
  have g2 : (b.High - b.Low) * y ≤ (b.High - b.Low) * 255 := Int.mul_le_mul_of_nonneg_left hy.2 (by omega)
  have g3 := pick_in h hy
  unfold pickV at g3
  simp only [F_thalweglaw03_pick]
  rw [wr_in (n := b.High - b.Low) (by omega) (by omega), wr_in (n := y) (by omega) (by omega), wr_in (n := (b.High - b.Low) * y) (by omega) (by omega), Int.tdiv_eq_ediv_of_nonneg g1]
  rw [wr_in (n := (b.High - b.Low) * y / 255) (by omega) (by omega), wr_in (by omega) (by omega)]
  rfl
def partV (l : List Int) (i : Nat) : Int := l.getD (i % l.length) 0
theorem part_in {l : List Int} (h : ∀ y ∈ l, 0 ≤ y ∧ y ≤ 255) (i : Nat) : 0 ≤ partV l i ∧ partV l i ≤ 255 := by
  unfold partV
  rw [List.getD_eq_getElem?_getD]
  cases hg : l[i % l.length]? with
  | none => simp
  | some y =>
    obtain ⟨hk, e⟩ := List.getElem?_eq_some_iff.1 hg
    simp only [Option.getD_some]
    exact h y (e ▸ List.getElem_mem hk)
theorem part_eq (l : List Int) (i : Nat) : F_thalweglaw03_part (l, (i : Int)) = some (partV l i) := by
  simp only [F_thalweglaw03_part]
  cases l with
  | nil => rfl
  | cons a l =>
    have hp : 0 < (a :: l).length := by simp
    have hm : i % (a :: l).length < (a :: l).length := Nat.mod_lt _ hp
    rw [show (((a :: l).length : Int) == 0) = false from by rw [beq_eq_false_iff_ne]; omega, nz_of (show ((a :: l).length : Int) ≠ 0 by omega)]
    simp only [cond_false, Option.bind_some]
    rw [← Int.ofNat_tmod, idx?_nat hm]
    unfold partV
    rw [List.getD_eq_getElem?_getD, List.getElem?_eq_getElem hm]
    rfl

def tGo (x : Tthalweglaw03_Truth) (place : Int) : List TRun → Nat → Int → Int
  | [], _, _ => -1
  | r :: m, k, n => if place = r.From then n else if inB place (minmax false r.From r.To) (minmax true r.From r.To) then n + pickV r.Wait (partV x.Wait k) + upM (dst r.From place) (pickV r.Speed (partV x.Speeds k)) else tGo x place m (k + 1) (n + pickV r.Wait (partV x.Wait k) + upM (dst r.From r.To) (pickV r.Speed (partV x.Speeds k)))
structure Tr (x : Tthalweglaw03_Truth) : Prop where
  start : 0 ≤ x.Start ∧ x.Start ≤ 255
  speeds : ∀ y ∈ x.Speeds, 0 ≤ y ∧ y ≤ 255
  wait : ∀ y ∈ x.Wait, 0 ≤ y ∧ y ≤ 255
theorem btw_alt {f t p : Int} (hne : f ≠ t) (hp : p ≠ f) : ((decide (p - f > 0) == decide (t > f)) && decide (dst f p ≤ dst f t)) = inB p (minmax false f t) (minmax true f t) := by
  rw [Bool.eq_iff_iff]
  simp only [Bool.and_eq_true, beq_iff_eq, decide_eq_decide, decide_eq_true_eq, inB_iff, dst, minmax, if_true, Bool.false_eq_true, if_false]
  split <;> split <;> split <;> split <;> omega
theorem rnIn {r : TRun} (hr : Rn r) {x : Tthalweglaw03_Truth} (hx : Tr x) (k : Nat) : (r.Speed.Low ≤ pickV r.Speed (partV x.Speeds k) ∧ pickV r.Speed (partV x.Speeds k) ≤ r.Speed.High) ∧ r.Wait.Low ≤ pickV r.Wait (partV x.Wait k) ∧ pickV r.Wait (partV x.Wait k) ≤ r.Wait.High :=
  ⟨pick_in hr.sle (part_in hx.speeds k), pick_in hr.wle (part_in hx.wait k)⟩
theorem truly_loop {v : TVoyage} (hv : Vy v) {x : Tthalweglaw03_Truth} (hx : Tr x) {place : Int} (hp : 0 ≤ place ∧ place ≤ 100000) : ∀ (m : List TRun) (k : Nat) (n : Int), v.Runs.drop k = m → 0 ≤ n → n ≤ 1000000 + 6005000 * k →
    (loopC (L_thalweglaw03_truly_1 place v x).step (n, (k : Int)) = some (.inl ()) ∧ tGo x place m k n = -1) ∨ loopC (L_thalweglaw03_truly_1 place v x).step (n, (k : Int)) = some (.inr (tGo x place m k n))
  | [], k, n, h, _, _ => by
    have := drop_nil h
    refine Or.inl ⟨?_, rfl⟩
    rw [loopC_eq]
    simp [L_thalweglaw03_truly_1, show ¬ k < v.Runs.length by omega]
  | r :: m, k, n, h, n0, n1 => by
    obtain ⟨hk1, hg, hd⟩ := drop_cons h
    have hn := hv.runs
    have hr : Rn r := by rw [← hg]; exact hv.each _ (List.getElem_mem hk1)
    have ⟨hs, hw⟩ := rnIn hr hx k
    have e1 := hr.slo
    have e2 := hr.shi
    have e3 := hr.wlo
    have e4 := hr.whi
    have e5 := hr.frm
    have e6 := hr.to
    have p1 := pick_eq hr.sle (by omega) (by omega) (part_in hx.speeds k)
    have p2 := pick_eq hr.wle (by omega) (by omega) (part_in hx.wait k)
    have d1 := dst_le hr.frm hp
    have d2 := dst_le hr.frm hr.to
    have u1 := upM_le d1 (s := pickV r.Speed (partV x.Speeds k)) (by omega)
    have u2 := upM_le d2 (s := pickV r.Speed (partV x.Speeds k)) (by omega)
    have tail : ∀ d, 0 ≤ d ∧ d ≤ 100000 → wr (Int.tdiv (wr (wr (wr (60 * d) + pickV r.Speed (partV x.Speeds k)) - 1)) (pickV r.Speed (partV x.Speeds k))) = upM d (pickV r.Speed (partV x.Speeds k)) := by
      intro d hd
      have u := upM_le hd (s := pickV r.Speed (partV x.Speeds k)) (by omega)
      rw [wr_in (n := 60 * d) (by omega) (by omega), wr_in (n := 60 * d + pickV r.Speed (partV x.Speeds k)) (by omega) (by omega), wr_in (n := 60 * d + pickV r.Speed (partV x.Speeds k) - 1) (by omega) (by omega), Int.tdiv_eq_ediv_of_nonneg (by omega), ← hi_alt (by omega)]
      exact wr_in (n := upM d (pickV r.Speed (partV x.Speeds k))) (by omega) (by omega)
    rw [loopC_eq]
    generalize hLL : loopC (L_thalweglaw03_truly_1 place v x).step = LL
    simp only [L_thalweglaw03_truly_1, Int.ofNat_lt, hk1, decide_true, cond_true, idx?_nat hk1, hg, Option.bind_some, part_eq, p1, p2]
    rw [tGo]
    by_cases c : place = r.From
    · rw [show (place == r.From) = true from by simpa using c, if_pos c]
      exact Or.inr rfl
    · rw [show (place == r.From) = false from by simpa using c, if_neg c]
      rw [decide_eq_false (show ¬ pickV r.Speed (partV x.Speeds k) < 1 by omega)]
      rw [wr_in (n := place - r.From) (by omega) (by omega), wr_in (n := 0 - (place - r.From)) (by omega) (by omega), show 0 - (place - r.From) = r.From - place by omega, wr_in (n := r.To - r.From) (by omega) (by omega), wr_in (n := r.From - r.To) (by omega) (by omega),
        show minmax true (place - r.From) (r.From - place) = dst r.From place from rfl, show minmax true (r.To - r.From) (r.From - r.To) = dst r.From r.To from rfl, tail _ d1, tail _ d2, nz_of (show pickV r.Speed (partV x.Speeds k) ≠ 0 by omega),
        wr_in (n := n + pickV r.Wait (partV x.Wait k)) (by omega) (by omega), wr_in (n := n + pickV r.Wait (partV x.Wait k) + upM (dst r.From place) (pickV r.Speed (partV x.Speeds k))) (by omega) (by omega), wr_in (n := n + pickV r.Wait (partV x.Wait k) + upM (dst r.From r.To) (pickV r.Speed (partV x.Speeds k))) (by omega) (by omega), wr_nat (by omega), ← btw_alt hr.ne c]
      have ih := truly_loop hv hx hp m (k + 1) (n + pickV r.Wait (partV x.Wait k) + upM (dst r.From r.To) (pickV r.Speed (partV x.Speeds k))) hd (by omega) (by omega)
      rw [hLL] at ih
      simp only [cond_false, Option.bind_some]
      cases (decide (place - r.From > 0) == decide (r.To > r.From)) with
      | false => exact ih
      | true =>
        cases decide (dst r.From place ≤ dst r.From r.To) with
        | false => exact ih
        | true => exact Or.inr rfl
def truV (v : TVoyage) (x : Tthalweglaw03_Truth) (place : Int) : Int := tGo x place v.Runs 0 (pickV v.Start x.Start)
theorem truly_eq {v : TVoyage} (hv : Vy v) {x : Tthalweglaw03_Truth} (hx : Tr x) {place : Int} (hp : 0 ≤ place ∧ place ≤ 100000) : F_thalweglaw03_truly (v, x, place) = some (truV v x place) := by
  have hs := hv.start
  have hi := pick_in hv.sle hx.start
  simp only [F_thalweglaw03_truly, pick_eq hv.sle hs.1.1 hs.2.2 hx.start, Option.bind_some]
  rcases truly_loop hv hx hp v.Runs 0 (pickV v.Start x.Start) rfl (by omega) (by omega) with ⟨e, e2⟩ | e
  · have e : loopC (L_thalweglaw03_truly_1 place v x).step (pickV v.Start x.Start, 0) = _ := e
    rw [e]
    exact congrArg some e2.symm
  · have e : loopC (L_thalweglaw03_truly_1 place v x).step (pickV v.Start x.Start, 0) = _ := e
    rw [e]
    rfl

/-! where a place is found -/
def found (place : Int) : List TRun → Prop
  | [] => False
  | r :: m => place = r.From ∨ inB place (minmax false r.From r.To) (minmax true r.From r.To) = true ∨ found place m
theorem up_le {d s c : Int} (hs : 0 < s) : upM d s ≤ c ↔ 60 * d ≤ c * s := by
  unfold upM
  rw [show -(-(60 * d) / s) ≤ c ↔ -c ≤ -(60 * d) / s by omega, Int.le_ediv_iff_mul_le hs, Int.neg_mul]
  omega
theorem up_mono {d d' s s' : Int} (hd0 : 0 ≤ d) (hd : d ≤ d') (hs : 0 < s') (hss : s' ≤ s) : upM d s ≤ upM d' s' := by
  have h := (up_le hs).1 (Int.le_refl (upM d' s'))
  rw [up_le (by omega)]
  have h0 : 0 ≤ upM d' s' := by
    unfold upM
    rw [hi_alt hs]
    exact Int.ediv_nonneg (by omega) (by omega)
  have := Int.mul_le_mul_of_nonneg_left hss h0
  omega
theorem t_bounds {x : Tthalweglaw03_Truth} (hx : Tr x) {place : Int} (hp : 0 ≤ place ∧ place ≤ 100000) : ∀ (m : List TRun) (k : Nat) (lo n hi : Int), (∀ r ∈ m, Rn r) → found place m → lo ≤ n → n ≤ hi → (aGo place m lo hi).1 ≤ tGo x place m k n ∧ tGo x place m k n ≤ (aGo place m lo hi).2
  | [], _, _, _, _, _, hf, _, _ => hf.elim
  | r :: m, k, lo, n, hi, hm, hf, h1, h2 => by
    have hr := hm r (by simp)
    have ⟨hs, hw⟩ := rnIn hr hx k
    have e1 := hr.slo
    rw [aGo, tGo]
    by_cases c : place = r.From
    · rw [if_pos c, if_pos c]; exact ⟨h1, h2⟩
    · rw [if_neg c, if_neg c]
      have d1 := dst_le hr.frm hp
      have d2 := dst_le hr.frm hr.to
      by_cases c2 : inB place (minmax false r.From r.To) (minmax true r.From r.To) = true
      · rw [if_pos c2, if_pos c2]
        have a := up_mono (d := dst r.From place) (d' := dst r.From place) (s := r.Speed.High) (s' := pickV r.Speed (partV x.Speeds k)) d1.1 (Int.le_refl _) (by omega) hs.2
        have b := up_mono (d := dst r.From place) (d' := dst r.From place) (s := pickV r.Speed (partV x.Speeds k)) (s' := r.Speed.Low) d1.1 (Int.le_refl _) (by omega) hs.1
        simp only [untilB]
        omega
      · rw [if_neg c2, if_neg c2]
        have a := up_mono (d := dst r.From r.To) (d' := dst r.From r.To) (s := r.Speed.High) (s' := pickV r.Speed (partV x.Speeds k)) d2.1 (Int.le_refl _) (by omega) hs.2
        have b := up_mono (d := dst r.From r.To) (d' := dst r.From r.To) (s := pickV r.Speed (partV x.Speeds k)) (s' := r.Speed.Low) d2.1 (Int.le_refl _) (by omega) hs.1
        refine t_bounds hx hp m (k + 1) _ _ _ (fun y hy => hm y (by simp [hy])) ?_ ?_ ?_
        · rcases hf with hf | hf | hf
          · exact absurd hf c
          · exact absurd hf c2
          · exact hf
        · simp only [untilB]; omega
        · simp only [untilB]; omega
theorem t_ge {x : Tthalweglaw03_Truth} (hx : Tr x) {place : Int} (hp : 0 ≤ place ∧ place ≤ 100000) : ∀ (m : List TRun) (k : Nat) (n : Int), (∀ r ∈ m, Rn r) → found place m → n ≤ tGo x place m k n
  | [], _, _, _, hf => hf.elim
  | r :: m, k, n, hm, hf => by
    have hr := hm r (by simp)
    have ⟨hs, hw⟩ := rnIn hr hx k
    have e1 := hr.slo
    have e3 := hr.wlo
    have d1 := dst_le hr.frm hp
    have d2 := dst_le hr.frm hr.to
    have u1 := upM_le d1 (s := pickV r.Speed (partV x.Speeds k)) (by omega)
    have u2 := upM_le d2 (s := pickV r.Speed (partV x.Speeds k)) (by omega)
    rw [tGo]
    by_cases c : place = r.From
    · rw [if_pos c]; exact Int.le_refl _
    · rw [if_neg c]
      by_cases c2 : inB place (minmax false r.From r.To) (minmax true r.From r.To) = true
      · rw [if_pos c2]; omega
      · rw [if_neg c2]
        have := t_ge hx hp m (k + 1) (n + pickV r.Wait (partV x.Wait k) + upM (dst r.From r.To) (pickV r.Speed (partV x.Speeds k))) (fun y hy => hm y (by simp [hy])) (by
          rcases hf with hf | hf | hf
          · exact absurd hf c
          · exact absurd hf c2
          · exact hf)
        omega
/-- One after the other, all in one direction. -/
def chain (dir : Bool) : List TRun → Prop
  | [] => True
  | r :: m => dn r = dir ∧ (∀ y m', m = y :: m' → y.From = r.To) ∧ chain dir m
def lastTo : List TRun → Int
  | [] => 0
  | r :: m => if m = [] then r.To else lastTo m
def bef (dir : Bool) (a b : Int) : Prop := if dir then a ≤ b else b ≤ a
theorem found_of (dir : Bool) {place : Int} : ∀ (r : TRun) (m : List TRun), (∀ y ∈ r :: m, Rn y) → chain dir (r :: m) → bef dir r.From place → bef dir place (lastTo (r :: m)) → found place (r :: m)
  | r, [], hm, hc, h1, h2 => by
    have hr := hm r (by simp)
    refine Or.inr (Or.inl ?_)
    have hd := hc.1
    simp only [lastTo, if_true] at h2
    rw [inB_iff]
    cases dir with
    | true =>
      have := of_decide_eq_true hd
      obtain ⟨m1, m2, _, _⟩ := mm_lt this
      simp only [bef, if_true] at h1 h2
      omega
    | false =>
      have := of_decide_eq_false hd
      have hne := hr.ne
      obtain ⟨_, _, m1, m2⟩ := mm_lt (show r.To < r.From by omega)
      simp only [bef, Bool.false_eq_true, if_false] at h1 h2
      omega
  | r, y :: m, hm, hc, h1, h2 => by
    have hr := hm r (by simp)
    have hd := hc.1
    have hj := hc.2.1 y m rfl
    by_cases c : inB place (minmax false r.From r.To) (minmax true r.From r.To) = true
    · exact Or.inr (Or.inl c)
    · refine Or.inr (Or.inr (found_of dir y m (fun z hz => hm z (by simp only [List.mem_cons] at hz ⊢; exact Or.inr hz)) hc.2.2 ?_ ?_))
      · rw [inB_iff] at c
        rw [hj]
        cases dir with
        | true =>
          have := of_decide_eq_true hd
          obtain ⟨m1, m2, _, _⟩ := mm_lt this
          simp only [bef, if_true] at h1 ⊢
          omega
        | false =>
          have := of_decide_eq_false hd
          have hne := hr.ne
          obtain ⟨_, _, m1, m2⟩ := mm_lt (show r.To < r.From by omega)
          simp only [bef, Bool.false_eq_true, if_false] at h1 ⊢
          omega
      · have e : lastTo (r :: y :: m) = lastTo (y :: m) := by rw [lastTo, if_neg (by simp)]
        rw [e] at h2
        exact h2
theorem t_mono (dir : Bool) {x : Tthalweglaw03_Truth} (hx : Tr x) {p q : Int} (hp : 0 ≤ p ∧ p ≤ 100000) (hq : 0 ≤ q ∧ q ≤ 100000) (hpq : bef dir p q) : ∀ (r : TRun) (m : List TRun) (k : Nat) (n : Int), (∀ y ∈ r :: m, Rn y) → chain dir (r :: m) → bef dir r.From p → found p (r :: m) → found q (r :: m) → tGo x p (r :: m) k n ≤ tGo x q (r :: m) k n := by
  intro r m
  induction m generalizing r with
  | nil =>
    intro k n hm hc h1 hfp hfq
    exact t_mono_step dir hx hp hq hpq r [] k n hm hc h1 hfp hfq (fun y m' h => by cases h)
  | cons y m ih =>
    intro k n hm hc h1 hfp hfq
    refine t_mono_step dir hx hp hq hpq r (y :: m) k n hm hc h1 hfp hfq (fun z m' h n' h2 h3 h4 => ?_)
    cases h
    exact ih y (k + 1) n' (fun w hw => hm w (by simp only [List.mem_cons] at hw ⊢; exact Or.inr hw)) hc.2.2 h2 h3 h4
where
  t_mono_step (dir : Bool) {x : Tthalweglaw03_Truth} (hx : Tr x) {p q : Int} (hp : 0 ≤ p ∧ p ≤ 100000) (hq : 0 ≤ q ∧ q ≤ 100000) (hpq : bef dir p q) (r : TRun) (m : List TRun) (k : Nat) (n : Int) (hm : ∀ y ∈ r :: m, Rn y) (hc : chain dir (r :: m)) (h1 : bef dir r.From p) (hfp : found p (r :: m)) (hfq : found q (r :: m))
      (ih : ∀ (y : TRun) (m' : List TRun), m = y :: m' → ∀ n, bef dir y.From p → found p m → found q m → tGo x p m (k + 1) n ≤ tGo x q m (k + 1) n) : tGo x p (r :: m) k n ≤ tGo x q (r :: m) k n := by
    have hr := hm r (by simp)
    have hm' : ∀ y ∈ m, Rn y := fun y hy => hm y (by simp [hy])
    have ⟨hs, hw⟩ := rnIn hr hx k
    have e1 := hr.slo
    have e3 := hr.wlo
    have hd := hc.1
    have hne := hr.ne
    by_cases c : p = r.From
    · rw [show tGo x p (r :: m) k n = n by rw [tGo, if_pos c]]
      exact t_ge hx hq (r :: m) k n hm hfq
    · have d1 := dst_le hr.frm hp
      have d2 := dst_le hr.frm hr.to
      have dirs : (r.From < r.To ∧ r.From < p ∧ p ≤ q ∧ dir = true) ∨ (r.To < r.From ∧ p < r.From ∧ q ≤ p ∧ dir = false) := by
        cases dir with
        | true =>
          have := of_decide_eq_true hd
          simp only [bef, if_true] at h1 hpq
          exact Or.inl ⟨this, by omega, hpq, rfl⟩
        | false =>
          have := of_decide_eq_false hd
          simp only [bef, Bool.false_eq_true, if_false] at h1 hpq
          exact Or.inr ⟨by omega, by omega, hpq, rfl⟩
      have cq : q ≠ r.From := by omega
      have fq : ¬ inB q (minmax false r.From r.To) (minmax true r.From r.To) = true → found q m := fun c2 => by
        rcases hfq with h | h | h
        · exact absurd h cq
        · exact absurd h c2
        · exact h
      rw [tGo, tGo, if_neg c, if_neg cq]
      by_cases cp2 : inB p (minmax false r.From r.To) (minmax true r.From r.To) = true
      · rw [if_pos cp2]
        by_cases cq2 : inB q (minmax false r.From r.To) (minmax true r.From r.To) = true
        · rw [if_pos cq2]
          have hdd : dst r.From p ≤ dst r.From q := by
            simp only [dst, minmax, if_true]
            split <;> split <;> omega
          have := up_mono (s := pickV r.Speed (partV x.Speeds k)) (s' := pickV r.Speed (partV x.Speeds k)) d1.1 hdd (by omega) (Int.le_refl _)
          omega
        · rw [if_neg cq2]
          have hdd : dst r.From p ≤ dst r.From r.To := by
            have cp2 := inB_iff.1 cp2
            rcases dirs with ⟨a, b, _, _⟩ | ⟨a, b, _, _⟩
            · obtain ⟨m1, m2, _, _⟩ := mm_lt a
              simp only [dst, minmax, if_true]
              split <;> split <;> omega
            · obtain ⟨_, _, m1, m2⟩ := mm_lt a
              simp only [dst, minmax, if_true]
              split <;> split <;> omega
          have := up_mono (s := pickV r.Speed (partV x.Speeds k)) (s' := pickV r.Speed (partV x.Speeds k)) d1.1 hdd (by omega) (Int.le_refl _)
          have := t_ge hx hq m (k + 1) (n + pickV r.Wait (partV x.Wait k) + upM (dst r.From r.To) (pickV r.Speed (partV x.Speeds k))) hm' (fq cq2)
          omega
      · have cq2 : ¬ inB q (minmax false r.From r.To) (minmax true r.From r.To) = true := by
          rw [inB_iff] at cp2 ⊢
          rcases dirs with ⟨a, b, e, _⟩ | ⟨a, b, e, _⟩
          · obtain ⟨m1, m2, _, _⟩ := mm_lt a
            omega
          · obtain ⟨_, _, m1, m2⟩ := mm_lt a
            omega
        rw [if_neg cp2, if_neg cq2]
        have fp : found p m := by
          rcases hfp with h | h | h
          · exact absurd h c
          · exact absurd h cp2
          · exact h
        cases m with
        | nil => exact fp.elim
        | cons y m' =>
          refine ih y m' rfl _ ?_ fp (fq cq2)
          have hj := hc.2.1 y m' rfl
          rw [hj]
          rw [inB_iff] at cp2
          rcases dirs with ⟨a, b, e, rfl⟩ | ⟨a, b, e, rfl⟩
          · obtain ⟨m1, m2, _, _⟩ := mm_lt a
            simp only [bef, if_true]
            omega
          · obtain ⟨_, _, m1, m2⟩ := mm_lt a
            simp only [bef, Bool.false_eq_true, if_false]
            omega
theorem chain_of {v : TVoyage} (hv : Vy v) : ∀ (m : List TRun) (k : Nat), v.Runs.drop k = m → (m ≠ [] → dn (runD v.Runs k) = dn (runD v.Runs 0)) → chain (dn (runD v.Runs 0)) m ∧ (m ≠ [] → lastTo m = (runD v.Runs (v.Runs.length - 1)).To)
  | [], _, _, _ => ⟨trivial, fun h => absurd rfl h⟩
  | r :: m, k, h, hk => by
    obtain ⟨hk1, hg, hd⟩ := drop_cons h
    have hk := hk (by simp)
    have hg' : runD v.Runs k = r := by rw [← runD_get hk1, hg]
    have ih := chain_of hv m (k + 1) hd (fun hne => by
      have : k + 1 < v.Runs.length := by
        cases m with
        | nil => exact absurd rfl hne
        | cons y m' => exact (drop_cons hd).1
      rw [hv.dirs k this, hk])
    refine ⟨⟨by rw [← hg', hk], fun y m' hy => ?_, ih.1⟩, fun _ => ?_⟩
    · subst hy
      obtain ⟨hk2, hg2, _⟩ := drop_cons hd
      have := hv.join k hk2
      rw [← runD_get hk2, hg2, hg'] at this
      exact this
    · cases m with
      | nil =>
        have := drop_nil hd
        rw [lastTo, if_pos rfl, show v.Runs.length - 1 = k by omega, hg']
      | cons y m' =>
        rw [lastTo, if_neg (by simp)]
        exact ih.2 (by simp)
end Go.Ev
/- Chapter 3: the law of truths. -/
set_option linter.unusedVariables false
set_option linter.unusedSimpArgs false
namespace Go.Ev
set_option maxHeartbeats 4000000

def enP (v : TVoyage) (n : TNarrow) : Int := bif dn (runD v.Runs 0) then n.From else n.To
def leP (v : TVoyage) (n : TNarrow) : Int := bif dn (runD v.Runs 0) then n.To + tl v else n.From - tl v
def seen (v : TVoyage) (n : TNarrow) (s : Ttow_stay) (e : Int) : Prop := s = noStay ∨ (e = 0 ∧ s = ⟨arrB v (enP v n), arrB v (leP v n), true⟩ ∧ onW v (enP v n) = true ∧ onW v (leP v n) = true)
theorem tail_wr {v : TVoyage} (hv : Vy v) : wr (Int.tdiv (wr (v.Length + 99)) 100) = tl v := by
  have hl := hv.len
  have ht := tl_in hv
  rw [wr_in (n := v.Length + 99) (by omega) (by omega), Int.tdiv_eq_ediv_of_nonneg (by omega)]
  unfold tl
  rw [hi_alt (by decide), wr_in (by omega) (by omega)]
  congr 1
  omega
theorem visit_more {v : TVoyage} (h : voyV v = true) {n : TNarrow} (hn : narV n = true) : ∃ s e, F_tow_visit (v, n) = some (s, e) ∧ seen v n s e := by
  have hv := vy_of h
  have hr := hv.runs
  have hl := hv.len
  obtain ⟨n1, n2, n3⟩ := nar_of hn
  have ht := tl_in hv
  have h0 : 0 < v.Runs.length := by omega
  have hz : idx? v.Runs 0 = some v.Runs[0] := idx?_nat (k := 0) h0
  have eu : F_numbers_Up (v.Length, 100) = some (tl v) := Up_eq (by decide) (by omega)
  have w1 : wr (n.To + tl v) = n.To + tl v := wr_in (by omega) (by omega)
  have w2 : wr (n.From - tl v) = n.From - tl v := wr_in (by omega) (by omega)
  have hd : F_tow_down v.Runs[0] = some (dn (runD v.Runs 0)) := by rw [runD_get h0]; rfl
  have hg : F_tow_gates (v, n) = some (enP v n, leP v n) := by
    simp only [F_tow_gates, eu, hz, hd, w1, w2, Option.bind_some, enP, leP]
    cases dn (runD v.Runs 0) <;> rfl
  simp only [F_tow_visit, Check_eq, h, cond_true, Option.bind_some, bne_self_eq_false, cond_false, validNarrow_eq, hn, Bool.not_true, hg, onWay2 hv]
  cases o1 : onW v (enP v n) with
  | false =>
    simp only [Bool.false_and, cond_false, F_tow_near, (ends_eq hv).1, Option.bind_some, bif_and]
    cases (decide (minmax false (endsOf v).1 (endsOf v).2 < minmax true (enP v n) (leP v n)) && decide (minmax true (endsOf v).1 (endsOf v).2 > minmax false (enP v n) (leP v n)))
    · exact ⟨noStay, 0, rfl, Or.inl rfl⟩
    · exact ⟨noStay, 9, rfl, Or.inl rfl⟩
  | true =>
    cases o2 : onW v (leP v n) with
    | false =>
      simp only [Bool.and_false, cond_false, F_tow_near, (ends_eq hv).1, Option.bind_some, bif_and]
      cases (decide (minmax false (endsOf v).1 (endsOf v).2 < minmax true (enP v n) (leP v n)) && decide (minmax true (endsOf v).1 (endsOf v).2 > minmax false (enP v n) (leP v n)))
      · exact ⟨noStay, 0, rfl, Or.inl rfl⟩
      · exact ⟨noStay, 9, rfl, Or.inl rfl⟩
    | true =>
      simp only [Bool.and_self, cond_true, (arrive_eq hv (onW_in hv o1)).1, (arrive_eq hv (onW_in hv o2)).1, Option.bind_some]
      exact ⟨_, _, rfl, Or.inr ⟨rfl, rfl, o1, o2⟩⟩
/-- What is true of the hours of a passage. -/
theorem round_facts {v : TVoyage} (hv : Vy v) {n : TNarrow} (hn : narV n = true) {x : Tthalweglaw03_Truth} (hx : Tr x) (o1 : onW v (enP v n) = true) (o2 : onW v (leP v n) = true) :
    F_thalweglaw03_truly (v, x, enP v n) = some (truV v x (enP v n)) ∧ F_thalweglaw03_truly (v, x, leP v n) = some (truV v x (leP v n)) ∧
    ((arrB v (enP v n)).Low ≤ truV v x (enP v n) ∧ truV v x (enP v n) ≤ (arrB v (enP v n)).High) ∧ ((arrB v (leP v n)).Low ≤ truV v x (leP v n) ∧ truV v x (leP v n) ≤ (arrB v (leP v n)).High) ∧ truV v x (enP v n) ≤ truV v x (leP v n) := by
  have p1 := onW_in hv o1
  have p2 := onW_in hv o2
  have hr := hv.runs
  have ht := tl_in hv
  obtain ⟨n1, n2, n3⟩ := nar_of hn
  have ⟨d1, d2⟩ := ends_dir hv
  have hi := pick_in hv.sle hx.start
  have hfd : ∀ p, onW v p = true → bef (dn (runD v.Runs 0)) (runD v.Runs 0).From p ∧ bef (dn (runD v.Runs 0)) p (runD v.Runs (v.Runs.length - 1)).To := by
    intro p hp
    have hp := inB_iff.1 hp
    rw [d1]
    by_cases c : (endsOf v).1 < (endsOf v).2
    · obtain ⟨m1, m2, _, _⟩ := mm_lt c
      rw [decide_eq_true c]
      simp only [endsOf] at *
      simp only [bef, if_true]
      omega
    · obtain ⟨_, _, m1, m2⟩ := mm_lt (show (endsOf v).2 < (endsOf v).1 by omega)
      rw [decide_eq_false c]
      simp only [endsOf] at *
      simp only [bef, Bool.false_eq_true, if_false]
      omega
  have hb : bef (dn (runD v.Runs 0)) (enP v n) (leP v n) := by
    unfold enP leP
    cases dn (runD v.Runs 0)
    · simp only [bef, Bool.false_eq_true, if_false, cond_false]; omega
    · simp only [bef, if_true, cond_true]; omega
  have hch := chain_of hv v.Runs 0 rfl (fun _ => rfl)
  have hne : v.Runs ≠ [] := by intro e; rw [e] at hr; simp at hr
  have hlast := hch.2 hne
  have hchain := hch.1
  have g1 := hfd _ o1
  have g2 := hfd _ o2
  rw [← hlast] at g1 g2
  refine ⟨truly_eq hv hx p1, truly_eq hv hx p2, ?_⟩
  have heach := hv.each
  have hz : runD v.Runs 0 = v.Runs[0]'(by omega) := (runD_get (by omega)).symm
  have main : ∀ (l : List TRun), l ≠ [] → (∀ y ∈ l, Rn y) → chain (dn (runD v.Runs 0)) l → (∀ r m, l = r :: m → r.From = (runD v.Runs 0).From) → lastTo l = lastTo v.Runs →
      (found (enP v n) l ∧ found (leP v n) l) ∧ tGo x (enP v n) l 0 (pickV v.Start x.Start) ≤ tGo x (leP v n) l 0 (pickV v.Start x.Start) := by
    intro l hl he hc hf hla
    cases l with
    | nil => exact absurd rfl hl
    | cons r m =>
      have e := hf r m rfl
      rw [← e, ← hla] at g1 g2
      have f1 := found_of _ r m he hc g1.1 g1.2
      have f2 := found_of _ r m he hc g2.1 g2.2
      exact ⟨⟨f1, f2⟩, t_mono _ hx p1 p2 hb r m 0 _ he hc g1.1 f1 f2⟩
  obtain ⟨⟨f1, f2⟩, hm⟩ := main v.Runs hne heach hchain (fun r m h => by rw [hz]; simp only [h, List.getElem_cons_zero]) rfl
  refine ⟨t_bounds hx p1 v.Runs 0 _ _ _ heach f1 hi.1 hi.2, t_bounds hx p2 v.Runs 0 _ _ _ heach f2 hi.1 hi.2, hm⟩
theorem dn_not {r : TRun} (h : Rn r) : decide (r.To < r.From) = !dn r := by
  have := h.ne
  unfold dn
  rw [Bool.eq_iff_iff]
  simp only [Bool.not_eq_true', decide_eq_true_eq, decide_eq_false_iff_not]
  omega
def within (b : TBounds) (t : Int) : Prop := b.Low ≤ t ∧ t ≤ b.High
theorem step0 {vs : Tanon67} {n : TNarrow} {xs : Tanon71} {y7 : Bool × Bool × Int} (h : voyV vs.a0 = true) (hn : narV n = true) (hx : Tr xs.a0) {s : Ttow_stay} (hs : F_tow_visit (vs.a0, n) = some (s, 0)) (hc : seen vs.a0 n s 0) (i0 o0 i1 o1 : Int) :
    ∃ I O, (L_thalweglaw03_TowTruths_1 y7 vs n xs).step (true, 0, i0, o0, i1, o1) = some (.inl (s.passes_, 1, I, O, i1, o1)) ∧ (s.passes_ = true → within s.in_ I ∧ within s.out_ O) := by
  have hv := vy_of h
  have hr := hv.runs
  have h0 : 0 < vs.a0.Runs.length := by omega
  have hz : idx? vs.a0.Runs 0 = some vs.a0.Runs[0] := idx?_nat (k := 0) h0
  rcases hc with rfl | ⟨_, rfl, o1', o2'⟩
  · refine ⟨i0, o0, ?_, fun h => by cases h⟩
    simp only [L_thalweglaw03_TowTruths_1, copiedV_eq (show vs.a0.Runs.length ≤ 1000 by omega), F_tow_Through, hs, Option.bind_some]
    rfl
  · obtain ⟨t1, t2, ⟨b1, b2⟩, ⟨b3, b4⟩, b5⟩ := round_facts hv hn hx o1' o2'
    obtain ⟨n1, n2, n3⟩ := nar_of hn
    have ht := tl_in hv
    have hA := Arrive_eq vs.a0 (leP vs.a0 n)
    rw [h, o2'] at hA
    have hdn := dn_not (hv.each _ (List.getElem_mem h0))
    rw [runD_get h0] at hdn hz
    refine ⟨truV vs.a0 xs.a0 (enP vs.a0 n), truV vs.a0 xs.a0 (leP vs.a0 n), ?_, fun _ => ⟨⟨b1, b2⟩, b3, b4⟩⟩
    have f1 : decide (truV vs.a0 xs.a0 (enP vs.a0 n) < (arrB vs.a0 (enP vs.a0 n)).Low) = false := decide_eq_false (by omega)
    have f2 : decide (truV vs.a0 xs.a0 (enP vs.a0 n) > (arrB vs.a0 (enP vs.a0 n)).High) = false := decide_eq_false (by omega)
    have f3 : decide (truV vs.a0 xs.a0 (leP vs.a0 n) < (arrB vs.a0 (leP vs.a0 n)).Low) = false := decide_eq_false (by omega)
    have f4 : decide (truV vs.a0 xs.a0 (leP vs.a0 n) > (arrB vs.a0 (leP vs.a0 n)).High) = false := decide_eq_false (by omega)
    have f5 : decide (truV vs.a0 xs.a0 (enP vs.a0 n) > truV vs.a0 xs.a0 (leP vs.a0 n)) = false := decide_eq_false (by omega)
    simp only [L_thalweglaw03_TowTruths_1, copiedV_eq (show vs.a0.Runs.length ≤ 1000 by omega), F_tow_Through, hs, Option.bind_some, hz, hdn, tail_wr hv]
    unfold enP leP at *
    cases hd : dn (runD vs.a0.Runs 0) with
    | true =>
      rw [hd] at t1 t2 f1 f2 f3 f4 f5 hA
      simp only [cond_true] at t1 t2 f1 f2 f3 f4 f5 hA ⊢
      rw [wr_in (n := n.To + tl vs.a0) (by omega) (by omega)]
      simp only [Bool.not_true, cond_false, t1, t2, Option.bind_some, f1, f2, f3, f4, f5, hA, beq_self_eq_true, Bool.and_self, bne_self_eq_false]
      rfl
    | false =>
      rw [hd] at t1 t2 f1 f2 f3 f4 f5 hA
      simp only [cond_false] at t1 t2 f1 f2 f3 f4 f5 hA ⊢
      rw [wr_in (n := n.From - tl vs.a0) (by omega) (by omega)]
      simp only [Bool.not_false, Bool.not_true, cond_true, cond_false, t1, t2, Option.bind_some, f1, f2, f3, f4, f5, hA, beq_self_eq_true, Bool.and_self, bne_self_eq_false]
      rfl
theorem step1 {vs : Tanon67} {n : TNarrow} {xs : Tanon71} {y7 : Bool × Bool × Int} (h : voyV vs.a1 = true) (hn : narV n = true) (hx : Tr xs.a1) {s : Ttow_stay} (hs : F_tow_visit (vs.a1, n) = some (s, 0)) (hc : seen vs.a1 n s 0) (b : Bool) (i0 o0 i1 o1 : Int) :
    ∃ I O, (L_thalweglaw03_TowTruths_1 y7 vs n xs).step (b, 1, i0, o0, i1, o1) = some (.inl (b && s.passes_, 2, i0, o0, I, O)) ∧ (s.passes_ = true → within s.in_ I ∧ within s.out_ O) := by
  have hv := vy_of h
  have hr := hv.runs
  have h0 : 0 < vs.a1.Runs.length := by omega
  have hz : idx? vs.a1.Runs 0 = some vs.a1.Runs[0] := idx?_nat (k := 0) h0
  rcases hc with rfl | ⟨_, rfl, o1', o2'⟩
  · refine ⟨i1, o1, ?_, fun h => by cases h⟩
    simp only [L_thalweglaw03_TowTruths_1, copiedV_eq (show vs.a1.Runs.length ≤ 1000 by omega), F_tow_Through, hs, Option.bind_some]
    cases b <;> rfl
  · obtain ⟨t1, t2, ⟨b1, b2⟩, ⟨b3, b4⟩, b5⟩ := round_facts hv hn hx o1' o2'
    obtain ⟨n1, n2, n3⟩ := nar_of hn
    have ht := tl_in hv
    have hA := Arrive_eq vs.a1 (leP vs.a1 n)
    rw [h, o2'] at hA
    have hdn := dn_not (hv.each _ (List.getElem_mem h0))
    rw [runD_get h0] at hdn hz
    refine ⟨truV vs.a1 xs.a1 (enP vs.a1 n), truV vs.a1 xs.a1 (leP vs.a1 n), ?_, fun _ => ⟨⟨b1, b2⟩, b3, b4⟩⟩
    have f1 : decide (truV vs.a1 xs.a1 (enP vs.a1 n) < (arrB vs.a1 (enP vs.a1 n)).Low) = false := decide_eq_false (by omega)
    have f2 : decide (truV vs.a1 xs.a1 (enP vs.a1 n) > (arrB vs.a1 (enP vs.a1 n)).High) = false := decide_eq_false (by omega)
    have f3 : decide (truV vs.a1 xs.a1 (leP vs.a1 n) < (arrB vs.a1 (leP vs.a1 n)).Low) = false := decide_eq_false (by omega)
    have f4 : decide (truV vs.a1 xs.a1 (leP vs.a1 n) > (arrB vs.a1 (leP vs.a1 n)).High) = false := decide_eq_false (by omega)
    have f5 : decide (truV vs.a1 xs.a1 (enP vs.a1 n) > truV vs.a1 xs.a1 (leP vs.a1 n)) = false := decide_eq_false (by omega)
    simp only [L_thalweglaw03_TowTruths_1, copiedV_eq (show vs.a1.Runs.length ≤ 1000 by omega), F_tow_Through, hs, Option.bind_some, hz, hdn, tail_wr hv]
    unfold enP leP at *
    cases hd : dn (runD vs.a1.Runs 0) with
    | true =>
      rw [hd] at t1 t2 f1 f2 f3 f4 f5 hA
      simp only [cond_true] at t1 t2 f1 f2 f3 f4 f5 hA ⊢
      rw [wr_in (n := n.To + tl vs.a1) (by omega) (by omega)]
      simp only [Bool.not_true, cond_false, t1, t2, Option.bind_some, f1, f2, f3, f4, f5, hA, beq_self_eq_true, Bool.and_self, bne_self_eq_false]
      cases b <;> rfl
    | false =>
      rw [hd] at t1 t2 f1 f2 f3 f4 f5 hA
      simp only [cond_false] at t1 t2 f1 f2 f3 f4 f5 hA ⊢
      rw [wr_in (n := n.From - tl vs.a1) (by omega) (by omega)]
      simp only [Bool.not_false, Bool.not_true, cond_true, cond_false, t1, t2, Option.bind_some, f1, f2, f3, f4, f5, hA, beq_self_eq_true, Bool.and_self, bne_self_eq_false]
      cases b <;> rfl
def mayV (s t : Ttow_stay) : Bool := (s.passes_ && t.passes_) && (decide (s.in_.Low ≤ t.out_.High) && decide (t.in_.Low ≤ s.out_.High))
def mustV (s t : Ttow_stay) : Bool := (s.passes_ && t.passes_) && (decide (s.in_.High ≤ t.out_.Low) && decide (t.in_.High ≤ s.out_.Low))
theorem may_eq (s t : Ttow_stay) : F_tow_mayMeet (s, t) = some (mayV s t) := by
  simp only [F_tow_mayMeet, bif_and, mayV]
  cases s.passes_ <;> cases t.passes_ <;> rfl
theorem must_eq (s t : Ttow_stay) : F_tow_mustMeet (s, t) = some (mustV s t) := by
  simp only [F_tow_mustMeet, bif_and, mustV]
  cases s.passes_ <;> cases t.passes_ <;> rfl
theorem Meet_cases {a b : TVoyage} (ha : voyV a = true) (hb : voyV b = true) (n : TNarrow) :
    (∃ e, e ≠ 0 ∧ F_tow_Meet (a, b, n) = some (false, false, e)) ∨
    (narV n = true ∧ ∃ s t, F_tow_visit (a, n) = some (s, 0) ∧ F_tow_visit (b, n) = some (t, 0) ∧ seen a n s 0 ∧ seen b n t 0 ∧ F_tow_Meet (a, b, n) = some (mayV s t, mustV s t, 0)) := by
  cases hn : narV n with
  | false =>
    refine Or.inl ⟨2, by decide, ?_⟩
    simp only [F_tow_Meet, Check_eq, ha, hb, cond_true, Option.bind_some, bne_self_eq_false, cond_false, visit_bad a n (Or.inr hn)]
    rfl
  | true =>
    obtain ⟨s, e, h1, c1⟩ := visit_more ha hn
    obtain ⟨t, f, g1, c2⟩ := visit_more hb hn
    by_cases he : e = 0
    · subst he
      by_cases hf : f = 0
      · subst hf
        refine Or.inr ⟨rfl, s, t, h1, g1, c1, c2, ?_⟩
        simp only [F_tow_Meet, Check_eq, ha, hb, cond_true, Option.bind_some, bne_self_eq_false, cond_false, h1, g1, may_eq, must_eq]
      · refine Or.inl ⟨f, hf, ?_⟩
        simp only [F_tow_Meet, Check_eq, ha, hb, cond_true, Option.bind_some, bne_self_eq_false, cond_false, h1, g1, show (f != 0) = true from by simpa using hf]
    · refine Or.inl ⟨e, he, ?_⟩
      simp only [F_tow_Meet, Check_eq, ha, hb, cond_true, Option.bind_some, bne_self_eq_false, cond_false, h1, show (e != 0) = true from by simpa using he]
theorem sound_eq (v : TVoyage) : ∃ b, F_thalweglaw03_sound v = some b ∧ (b = true → voyV v = true ∧ v.Runs.length ≤ 25) := by
  simp only [F_thalweglaw03_sound]
  by_cases c1 : (v.Runs.length : Int) ≥ 1
  · rw [decide_eq_true c1]
    by_cases c2 : (v.Runs.length : Int) ≤ 25
    · rw [decide_eq_true c2]
      simp only [cond_true, copiedV_eq (show v.Runs.length ≤ 1000 by omega), Option.bind_some, Check_eq]
      refine ⟨_, rfl, fun h => ?_⟩
      cases hv : voyV v with
      | true => exact ⟨rfl, by omega⟩
      | false => rw [hv] at h; cases h
    · rw [decide_eq_false c2]
      exact ⟨false, rfl, fun h => by cases h⟩
  · rw [decide_eq_false c1]
    exact ⟨false, rfl, fun h => by cases h⟩
theorem truths_true {vs : Tanon67} {n : TNarrow} {xs : Tanon71} (h0 : Tr xs.a0) (h1 : Tr xs.a1) : F_thalweglaw03_TowTruths (vs, n, xs) = some true := by
  obtain ⟨b0, e0, k0⟩ := sound_eq vs.a0
  obtain ⟨b1, e1, k1⟩ := sound_eq vs.a1
  simp only [F_thalweglaw03_TowTruths, knownT_eq, e0, e1, Option.bind_some]
  cases b0 with
  | false => rfl
  | true =>
    cases b1 with
    | false => rfl
    | true =>
      obtain ⟨ha, la⟩ := k0 rfl
      obtain ⟨hb, lb⟩ := k1 rfl
      simp only [Bool.not_true, cond_false, copiedV_eq (show vs.a0.Runs.length ≤ 1000 by omega), copiedV_eq (show vs.a1.Runs.length ≤ 1000 by omega), Option.bind_some]
      rcases Meet_cases ha hb n with ⟨e, he, hMt⟩ | ⟨hn, s, t, g1, g2, c1, c2, hMt⟩
      · simp only [hMt, Option.bind_some, show (e != 0) = true from by simpa using he]
        rfl
      · simp only [hMt, Option.bind_some, bne_self_eq_false, cond_false]
        obtain ⟨I0, O0, st0, w0⟩ := step0 (y7 := (mayV s t, mustV s t, 0)) ha hn h0 g1 c1 0 0 0 0
        obtain ⟨I1, O1, st1, w1⟩ := step1 (y7 := (mayV s t, mustV s t, 0)) hb hn h1 g2 c2 s.passes_ I0 O0 0 0
        have st2 : (L_thalweglaw03_TowTruths_1 (mayV s t, mustV s t, 0) vs n xs).step (s.passes_ && t.passes_, 2, I0, O0, I1, O1) = some (.inr (.inl (s.passes_ && t.passes_, I0, I1, O0, O1))) := rfl
        rw [loopC_eq, st0]
        simp only
        rw [loopC_eq, st1]
        simp only
        rw [loopC_eq, st2]
        simp only [Option.bind_some]
        cases hp : (s.passes_ && t.passes_) with
        | false =>
          simp only [mayV, mustV, hp, Bool.false_and]
          rfl
        | true =>
          simp only [Bool.and_eq_true] at hp
          obtain ⟨⟨a1, a2⟩, a3, a4⟩ := w0 hp.1
          obtain ⟨⟨d1, d2⟩, d3, d4⟩ := w1 hp.2
          simp only [mayV, mustV, hp.1, hp.2, Bool.and_self, Bool.true_and, Bool.not_true, cond_false]
          by_cases q1 : I0 ≤ O1 <;> by_cases q2 : I1 ≤ O0 <;> by_cases q3 : s.in_.Low ≤ t.out_.High <;> by_cases q4 : t.in_.Low ≤ s.out_.High <;> by_cases q5 : s.in_.High ≤ t.out_.Low <;> by_cases q6 : t.in_.High ≤ s.out_.Low <;> first | omega | simp [q1, q2, q3, q4, q5, q6]
end Go.Ev
/- The laws on tows, by what is known of their arguments. -/
set_option linter.unusedVariables false
namespace Go.Ev
theorem u8_in {i : Int} (h : kIu8 i) : 0 ≤ i ∧ i ≤ 255 := by
  simpa [kIu8, IntKind.min, IntKind.max, IntKind.bits, IntKind.signed] using h
theorem u16_in {i : Int} (h : kIu16 i) : 0 ≤ i ∧ i ≤ 65535 := by
  simpa [kIu16, IntKind.min, IntKind.max, IntKind.bits, IntKind.signed] using h
theorem measures_law {t : TTow} (h : kTTow t) : F_thalweglaw03_TowMeasures t = some true := measures_true h.2.2.1
theorem stops_law {x : Tanon37} {g : TBounds} {v : Tanon37} (h1 : kTanon37 x) (h2 : kTBounds g) (h3 : kTanon37 v) : F_thalweglaw03_TowStops (x, g, v) = some true := stops_true x g v
theorem arrives_law {v : TVoyage} {n : Int} (h1 : kTVoyage v) (h2 : kIi64 n) : F_thalweglaw03_TowArrives (v, n) = some true := arrives_true v n
theorem through_law {a b : TVoyage} {n : TNarrow} (h1 : kTVoyage a) (h2 : kTVoyage b) (h3 : kTNarrow n) : F_thalweglaw03_TowThrough (a, b, n) = some true := through_true a b n
theorem truths_law {vs : Tanon67} {n : TNarrow} {xs : Tanon71} (h1 : kTanon67 vs) (h2 : kTNarrow n) (h3 : kTanon71 xs) : F_thalweglaw03_TowTruths (vs, n, xs) = some true :=
  truths_true ⟨u8_in h3.1.1, fun y hy => u8_in (h3.1.2.1.2 y hy), fun y hy => u8_in (h3.1.2.2.2 y hy)⟩ ⟨u8_in h3.2.1, fun y hy => u8_in (h3.2.2.1.2 y hy), fun y hy => u8_in (h3.2.2.2.2 y hy)⟩
theorem brakes_law {x : Tthalweglaw03_Brakes} (h : kTthalweglaw03_Brakes x) : F_thalweglaw03_TowBrakes x = some true :=
  brakes_true (u16_in h.1) (u16_in h.2.1) (u8_in h.2.2.1.1) (u8_in h.2.2.1.2) (u8_in h.2.2.2.1.1) (u8_in h.2.2.2.1.2) (u16_in h.2.2.2.2)
end Go.Ev
