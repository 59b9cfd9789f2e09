/- A part of the proof of HullLeast. -/
import Derived.Test.YtbmnmappihnjgabW7
/- Chapter 2: hulls that are valid. -/
set_option linter.unusedVariables false
set_option linter.unusedSimpArgs false
namespace Go.Ev
set_option maxHeartbeats 1000000

theorem every_int {l : List Int} {p : Int → Option Bool} {q : Int → Bool} {g : FuncId} {caps : List V} (hp : ∀ x ∈ l, p x = some (q x)) (hl : l.length ≤ 4611686018427387904) : F_numbers_Every_int (l, p, g, caps) = some (l.all q) := by
  unfold F_numbers_Every_int
  simp only
  rw [show (0 : Int) = ((0 : Nat) : Int) from rfl, loop_list l (fun k => (k : Int)) q (e := .inl ()) (f := .inr false)]
  · cases l.all q <;> rfl
  · intro k hk
    simp only [L_numbers_Every_int_1, Int.ofNat_lt, hk, decide_true, cond_true, idx?_nat hk, Option.bind_some, hp _ (List.getElem_mem hk), wr_nat (show k < 9223372036854775807 by omega)]
    cases q l[k] <;> rfl
  · simp [L_numbers_Every_int_1]
theorem every_HullSection {l : List THullSection} {p : THullSection → Option Bool} {q : THullSection → Bool} {g : FuncId} {caps : List V} (hp : ∀ x ∈ l, p x = some (q x)) (hl : l.length ≤ 4611686018427387904) : F_numbers_Every_HullSection (l, p, g, caps) = some (l.all q) := by
  unfold F_numbers_Every_HullSection
  simp only
  rw [show (0 : Int) = ((0 : Nat) : Int) from rfl, loop_list l (fun k => (k : Int)) q (e := .inl ()) (f := .inr false)]
  · cases l.all q <;> rfl
  · intro k hk
    simp only [L_numbers_Every_HullSection_1, Int.ofNat_lt, hk, decide_true, cond_true, idx?_nat hk, Option.bind_some, hp _ (List.getElem_mem hk), wr_nat (show k < 9223372036854775807 by omega)]
    cases q l[k] <;> rfl
  · simp [L_numbers_Every_HullSection_1]
theorem every_HullHold {l : List THullHold} {p : THullHold → Option Bool} {q : THullHold → Bool} {g : FuncId} {caps : List V} (hp : ∀ x ∈ l, p x = some (q x)) (hl : l.length ≤ 4611686018427387904) : F_numbers_Every_HullHold (l, p, g, caps) = some (l.all q) := by
  unfold F_numbers_Every_HullHold
  simp only
  rw [show (0 : Int) = ((0 : Nat) : Int) from rfl, loop_list l (fun k => (k : Int)) q (e := .inl ()) (f := .inr false)]
  · cases l.all q <;> rfl
  · intro k hk
    simp only [L_numbers_Every_HullHold_1, Int.ofNat_lt, hk, decide_true, cond_true, idx?_nat hk, Option.bind_some, hp _ (List.getElem_mem hk), wr_nat (show k < 9223372036854775807 by omega)]
    cases q l[k] <;> rfl
  · simp [L_numbers_Every_HullHold_1]
theorem bif_and (a b : Bool) : (bif a then some b else some false) = some (a && b) := by cases a <;> rfl
theorem within1_eq (n a b : Int) : F_numbers_Within_1 (n, a, b) = some (inB n a b) := by
  simp only [F_numbers_Within_1, bif_and, inB]
theorem within_eq (a b : Int) (l : List Int) (hl : l.length ≤ 4611686018427387904) : F_numbers_Within (a, b, l) = some (l.all fun n => inB n a b) := by
  simp only [F_numbers_Within]
  rw [every_int (q := fun n => inB n a b) (fun x _ => within1_eq x a b) hl]
  rfl
theorem within1 (a b n : Int) : F_numbers_Within (a, b, [n]) = some (inB n a b) := by rw [within_eq _ _ _ (by simp)]; simp
theorem within2 (a b n m : Int) : F_numbers_Within (a, b, [n, m]) = some (inB n a b && inB m a b) := by rw [within_eq _ _ _ (by simp)]; simp
def vB (b : TBounds) (x y : Int) : Bool := decide (b.Low ≤ b.High) && (inB b.Low x y && inB b.High x y)
theorem valid_eq (b : TBounds) (x y : Int) : F_numbers_Valid (b, x, y) = some (vB b x y) := by
  simp only [F_numbers_Valid, within2, Option.bind_some, bif_and, vB]
theorem loop_range {S E : Type} {step : S → Option (S ⊕ E)} (n : Nat) (st : Nat → S) (q : Nat → Bool) {e f : E} (h : ∀ k, k < n → step (st k) = some (if q k then .inl (st (k + 1)) else .inr f)) (he : step (st n) = some (.inr e)) :
    loopC step (st 0) = some (if (List.range n).all q then e else f) := by
  have := loop_list (List.range n) st q (e := e) (f := f) (step := step) (fun k hk => by
    rw [List.length_range] at hk
    rw [h k hk, List.getElem_range]) (by rw [List.length_range]; exact he)
  exact this

theorem loop_range0 {E : Type} {step : Int → Option (Int ⊕ E)} (n : Nat) (q : Nat → Bool) {e f : E} (h : ∀ k : Nat, k < n → step (k : Int) = some (if q k then .inl ((k + 1 : Nat) : Int) else .inr f)) (he : step (n : Int) = some (.inr e)) : loopC step 0 = some (if (List.range n).all q then e else f) := loop_range n (fun k : Nat => (k : Int)) q h he
theorem loop_list0 {α E : Type} {step : Int → Option (Int ⊕ E)} (l : List α) (q : α → Bool) {e f : E} (h : ∀ (k : Nat) (hk : k < l.length), step (k : Int) = some (if q l[k] then .inl ((k + 1 : Nat) : Int) else .inr f)) (he : step (l.length : Int) = some (.inr e)) : loopC step 0 = some (if l.all q then e else f) := loop_list l (fun k : Nat => (k : Int)) q h he

/-! curves -/
def rowD (l : List THullRow) (k : Nat) : THullRow := l[k]?.getD ⟨0, 0⟩
theorem rowD_get {l : List THullRow} {k : Nat} (h : k < l.length) : l[k] = rowD l k := by simp [rowD, h]
def upAt (l : List THullRow) (k : Nat) : Bool := decide ((rowD l k).Draft < (rowD l (k + 1)).Draft) && decide ((rowD l k).Volume < (rowD l (k + 1)).Volume)
/-- What a curve has to be. -/
structure Cv (l : List THullRow) : Prop where
  two : 2 ≤ l.length
  most : l.length ≤ 20
  d0 : (rowD l 0).Draft = 0
  v0 : (rowD l 0).Volume = 0
  up : ∀ k, k + 1 < l.length → (rowD l k).Draft < (rowD l (k + 1)).Draft ∧ (rowD l k).Volume < (rowD l (k + 1)).Volume
  dl : (rowD l (l.length - 1)).Draft ≤ 1000
  vl : (rowD l (l.length - 1)).Volume ≤ 100000
theorem Cv.mono {l : List THullRow} (h : Cv l) : ∀ (d j : Nat), j + d < l.length → (rowD l j).Draft ≤ (rowD l (j + d)).Draft ∧ (rowD l j).Volume ≤ (rowD l (j + d)).Volume
  | 0, j, _ => ⟨Int.le_refl _, Int.le_refl _⟩
  | d + 1, j, hd => by
    have h1 := h.mono d j (by omega)
    have h2 := h.up (j + d) (by omega)
    rw [show j + (d + 1) = j + d + 1 by omega]
    omega
theorem Cv.le {l : List THullRow} (h : Cv l) {i j : Nat} (hij : i ≤ j) (hj : j < l.length) : (rowD l i).Draft ≤ (rowD l j).Draft ∧ (rowD l i).Volume ≤ (rowD l j).Volume := by
  have := h.mono (j - i) i (by omega)
  rwa [show i + (j - i) = j by omega] at this
theorem Cv.bounds {l : List THullRow} (h : Cv l) {j : Nat} (hj : j < l.length) : 0 ≤ (rowD l j).Draft ∧ (rowD l j).Draft ≤ 1000 ∧ 0 ≤ (rowD l j).Volume ∧ (rowD l j).Volume ≤ 100000 := by
  have h1 := h.le (Nat.zero_le j) hj
  have h2 := h.le (show j ≤ l.length - 1 by omega) (by omega)
  have := h.d0; have := h.v0; have := h.dl; have := h.vl
  omega
def cvOk (l : List THullRow) : Bool := inB l.length 2 20 && (((rowD l 0).Draft == 0 && ((rowD l 0).Volume == 0 && true)) && ((List.range (l.length - 1)).all (upAt l) && (decide ((rowD l (l.length - 1)).Draft ≤ 1000) && decide ((rowD l (l.length - 1)).Volume ≤ 100000))))
theorem cvOk_iff (l : List THullRow) : cvOk l = true ↔ Cv l := by
  simp only [cvOk, Bool.and_eq_true, inB_iff, beq_iff_eq, List.all_eq_true, List.mem_range, upAt, decide_eq_true_eq, Bool.true_and, and_true]
  constructor
  · rintro ⟨⟨h1, h2⟩, ⟨h3, h4⟩, h5, h6, h7⟩
    exact ⟨by omega, by omega, h3, h4, fun k hk => h5 k (by omega), h6, h7⟩
  · intro h
    have := h.two; have := h.most
    exact ⟨⟨by omega, by omega⟩, ⟨h.d0, h.v0⟩, fun k hk => h.up k (by omega), h.dl, h.vl⟩
theorem validCurve_eq (l : List THullRow) : F_hull_validCurve l = some (cvOk l) := by
  simp only [F_hull_validCurve, within1, Option.bind_some, cvOk]
  cases h1 : inB l.length 2 20 with
  | false => rfl
  | true =>
    rw [inB_iff] at h1
    simp only [Bool.not_true, cond_false, Bool.true_and]
    rw [show idx? l 0 = some l[0] from idx?_nat (show 0 < l.length by omega)]
    simp only [Option.bind_some, rowD_get (show 0 < l.length by omega)]
    cases h2 : ((rowD l 0).Draft == 0 && ((rowD l 0).Volume == 0 && true)) with
    | false => rfl
    | true =>
      simp only [Bool.not_true, cond_false, Bool.true_and]
      have hloop : loopC (L_hull_validCurve_1 l).step 1 = some (if (List.range (l.length - 1)).all (upAt l) then .inl () else .inr false) := by
        refine loop_range (E := Unit ⊕ Bool) (l.length - 1) (fun k : Nat => ((k + 1 : Nat) : Int)) (upAt l) (e := .inl ()) (f := .inr false) ?_ ?_
        · intro k hk
          simp only [L_hull_validCurve_1, Int.ofNat_lt, show k + 1 < l.length by omega, decide_true, cond_true]
          rw [wr_nat (by omega), show wr (((k + 1 : Nat) : Int) - 1) = (k : Int) by rw [wr_in (by omega) (by omega)]; omega, idx?_nat (show k < l.length by omega), idx?_nat (show k + 1 < l.length by omega)]
          simp only [Option.bind_some, rowD_get (show k < l.length by omega), rowD_get (show k + 1 < l.length by omega), upAt]
          by_cases c1 : (rowD l k).Draft < (rowD l (k + 1)).Draft
          · by_cases c2 : (rowD l k).Volume < (rowD l (k + 1)).Volume
            · simp [c1, c2, show ¬ (rowD l k).Draft ≥ (rowD l (k + 1)).Draft by omega, show ¬ (rowD l k).Volume ≥ (rowD l (k + 1)).Volume by omega]
            · simp [c1, c2, show ¬ (rowD l k).Draft ≥ (rowD l (k + 1)).Draft by omega, show (rowD l k).Volume ≥ (rowD l (k + 1)).Volume by omega]
          · simp [c1, show (rowD l k).Draft ≥ (rowD l (k + 1)).Draft by omega]
        · simp only [L_hull_validCurve_1]
          rw [show decide (((l.length - 1 + 1 : Nat) : Int) < (l.length : Int)) = false from decide_eq_false (by omega)]
          rfl
      rw [hloop]
      cases (List.range (l.length - 1)).all (upAt l) with
      | false => rfl
      | true =>
        simp only [if_true, Option.bind_some, Bool.true_and]
        rw [wr_in (by omega) (by omega), show ((l.length : Nat) : Int) - 1 = ((l.length - 1 : Nat) : Int) by omega, idx?_nat (show l.length - 1 < l.length by omega)]
        simp only [Option.bind_some, rowD_get (show l.length - 1 < l.length by omega), bif_and]

theorem bn2 {α : Type} (a b : Bool) (x y : Option α) : (bif !a then x else bif !b then x else y) = bif (a && b) then y else x := by cases a <;> cases b <;> rfl
/-! sections -/
def holdOk (len : Int) (h : THullHold) : Bool := inB h.At 0 len && inB h.Lots 0 20
def secOk (x : THullSection) : Bool := inB x.Length 1 100 && (inB x.Light 0 10000 && (inB x.Trim 1 100000 && (cvOk x.Curve && x.Holds.all (holdOk x.Length))))
theorem validSection_eq {x : THullSection} (hl : x.Holds.length ≤ 1000000) : F_hull_validSection x = some (secOk x) := by
  simp only [F_hull_validSection, within1, validCurve_eq, Option.bind_some, secOk]
  rw [every_HullHold (q := holdOk x.Length) (fun h _ => by simp only [F_hull_validSection_1, within1, Option.bind_some, holdOk, bif_and]) (by omega)]
  cases inB x.Length 1 100 <;> cases inB x.Light 0 10000 <;> cases inB x.Trim 1 100000 <;> cases cvOk x.Curve <;> rfl
def refRow (l : List THullRow) (k : Nat) : Bool := inB (rowD l k).Draft 0 1000 && (inB (rowD l k).Volume 0 100000 && (if k = 0 then ((rowD l 0).Draft == 0 && ((rowD l 0).Volume == 0 && true)) else upAt l (k - 1)))
theorem refRow_iff {l : List THullRow} (h1 : 2 ≤ l.length) (h2 : l.length ≤ 20) : (List.range l.length).all (refRow l) = true ↔ Cv l := by
  simp only [List.all_eq_true, List.mem_range]
  constructor
  · intro h
    have a0 := h 0 (by omega)
    have al := h (l.length - 1) (by omega)
    simp only [refRow, Bool.and_eq_true, inB_iff, if_true, beq_iff_eq, and_true] at a0
    simp only [refRow, Bool.and_eq_true, inB_iff] at al
    refine ⟨h1, h2, a0.2.2.1, a0.2.2.2, fun k hk => ?_, al.1.2, al.2.1.2⟩
    have a := h (k + 1) hk
    simp only [refRow, Bool.and_eq_true, inB_iff, Nat.add_sub_cancel, show ¬ k + 1 = 0 by omega, if_false, upAt, decide_eq_true_eq] at a
    exact a.2.2
  · intro h k hk
    have hb := h.bounds hk
    simp only [refRow, Bool.and_eq_true, inB_iff]
    refine ⟨⟨hb.1, hb.2.1⟩, ⟨hb.2.2.1, hb.2.2.2⟩, ?_⟩
    by_cases c : k = 0
    · rw [if_pos c, h.d0, h.v0]; rfl
    · rw [if_neg c]
      have := h.up (k - 1) (by omega)
      simp only [upAt, Bool.and_eq_true, decide_eq_true_eq]
      exact this
end Go.Ev
/- Chapter 2: hulls, what they are made of. -/
set_option linter.unusedVariables false
set_option linter.unusedSimpArgs false
namespace Go.Ev
set_option maxHeartbeats 1000000

theorem drop_cons {α : Type} {l m : List α} {k : Nat} {x : α} (h : l.drop k = x :: m) : ∃ hk : k < l.length, l[k] = x ∧ l.drop (k + 1) = m := by
  have hk : k < l.length := by
    have := congrArg List.length h
    simp at this
    omega
  rw [List.drop_eq_getElem_cons hk] at h
  cases h
  exact ⟨hk, rfl, rfl⟩
theorem drop_nil {α : Type} {l : List α} {k : Nat} (h : l.drop k = []) : l.length ≤ k := by simpa using h
theorem mulB {a b : Int} {A B : Nat} (ha : a.natAbs ≤ A) (hb : b.natAbs ≤ B) : (a * b).natAbs ≤ A * B := by
  rw [Int.natAbs_mul]; exact Nat.mul_le_mul ha hb

def lenS : List THullSection → Int
  | [] => 0
  | x :: m => x.Length + lenS m
def cntS : List THullSection → Nat
  | [] => 0
  | x :: m => x.Holds.length + cntS m
/-- The holds, each with its place from the fore end. -/
def holdsS : List THullSection → Int → List (THullHold × Int)
  | [], _ => []
  | x :: m, t => x.Holds.map (fun h => (h, t + h.At)) ++ holdsS m (t + x.Length)
def lastD (x : THullSection) : Int := (rowD x.Curve (x.Curve.length - 1)).Draft
def limS : List THullSection → Int → Int
  | [], l => l
  | x :: m, l => limS m (minmax false l (lastD x))
def trimS : List THullSection → Int
  | [] => 0
  | x :: m => x.Trim + trimS m
def lightS : List THullSection → Int
  | [] => 0
  | x :: m => x.Light + lightS m
def momS (L : Int) : List THullSection → Int → Int
  | [], _ => 0
  | x :: m, t => x.Light * (2 * t + x.Length - L) + momS L m (t + x.Length)

/-- What a section has to be, in numbers. -/
structure Sec (x : THullSection) : Prop where
  len : 1 ≤ x.Length ∧ x.Length ≤ 100
  light : 0 ≤ x.Light ∧ x.Light ≤ 10000
  trim : 1 ≤ x.Trim ∧ x.Trim ≤ 100000
  cv : Cv x.Curve
  holds : ∀ h ∈ x.Holds, 0 ≤ h.At ∧ h.At ≤ x.Length ∧ 0 ≤ h.Lots ∧ h.Lots ≤ 20
theorem sec_of {x : THullSection} (h : secOk x = true) : Sec x := by
  simp only [secOk, Bool.and_eq_true, inB_iff, cvOk_iff, List.all_eq_true, holdOk] at h
  obtain ⟨h1, h2, h3, h4, h5⟩ := h
  exact ⟨h1, h2, h3, h4, fun y hy => by have := h5 y hy; omega⟩
/-- No more than the law looks at. -/
def small (l : List THullSection) : Prop := l.length ≤ 10 ∧ ∀ x ∈ l, x.Curve.length ≤ 25 ∧ x.Holds.length ≤ 8

theorem length_loop (l : List THullSection) (hl : l.length ≤ 10) : ∀ (m : List THullSection) (k : Nat) (s : Int), l.drop k = m → (∀ x ∈ m, Sec x) → 0 ≤ s → s ≤ 100 * k → loopC (L_hull_length_1 l).step (s, (k : Int)) = some (s + lenS m)
  | [], k, s, h, _, _, _ => by
    have := drop_nil h
    rw [loopC_eq]
    simp [L_hull_length_1, lenS, show ¬ k < l.length by omega]
  | x :: m, k, s, h, hx, h0, h1 => by
    obtain ⟨hk, hg, hd⟩ := drop_cons h
    have := (hx x (by simp)).len
    have e : (L_hull_length_1 l).step (s, (k : Int)) = some (.inl (s + x.Length, ((k + 1 : Nat) : Int))) := by
      simp only [L_hull_length_1, Int.ofNat_lt, hk, decide_true, cond_true, idx?_nat hk, hg, Option.bind_some]
      rw [wr_nat (by omega), wr_in (by omega) (by omega)]
    rw [loopC_eq, e]
    simp only
    rw [length_loop l hl m (k + 1) _ hd (fun y hy => hx y (by simp [hy])) (by omega) (by omega), lenS, Int.add_assoc]
theorem length_eq {l : List THullSection} (hl : l.length ≤ 10) (hx : ∀ x ∈ l, Sec x) : F_hull_length l = some (lenS l) := by
  simp only [F_hull_length]
  rw [show ((0 : Int), (0 : Int)) = (0, ((0 : Nat) : Int)) from rfl, length_loop l hl l 0 0 rfl hx (by omega) (by omega), Int.zero_add]
  rfl
theorem holds_loop (l : List THullSection) (hs : small l) : ∀ (m : List THullSection) (k : Nat) (s : Nat), l.drop k = m → (∀ x ∈ m, x.Holds.length ≤ 8) → s ≤ 8 * k → k ≤ l.length → loopC (L_hull_holds_1 l).step ((s : Int), (k : Int)) = some ((s + cntS m : Nat) : Int)
  | [], k, s, h, _, _, _ => by
    have := drop_nil h
    rw [loopC_eq]
    simp [L_hull_holds_1, cntS, show ¬ k < l.length by omega]
  | x :: m, k, s, h, hx, h0, _ => by
    obtain ⟨hk, hg, hd⟩ := drop_cons h
    have := hx x (by simp)
    have := hs.1
    have e : (L_hull_holds_1 l).step ((s : Int), (k : Int)) = some (.inl (((s + x.Holds.length : Nat) : Int), ((k + 1 : Nat) : Int))) := by
      simp only [L_hull_holds_1, Int.ofNat_lt, hk, decide_true, cond_true, idx?_nat hk, hg, Option.bind_some]
      rw [wr_nat (by omega), wr_in (by omega) (by omega)]
      rfl
    rw [loopC_eq, e]
    simp only
    rw [holds_loop l hs m (k + 1) _ hd (fun y hy => hx y (by simp [hy])) (by omega) (by omega), cntS, Nat.add_assoc]
theorem holds_eq {l : List THullSection} (hs : small l) : F_hull_holds l = some (cntS l : Int) := by
  simp only [F_hull_holds]
  rw [show ((0 : Int), (0 : Int)) = (((0 : Nat) : Int), ((0 : Nat) : Int)) from rfl, holds_loop l hs l 0 0 rfl (fun x hx => (hs.2 x hx).2) (by omega) (by omega), Nat.zero_add]
  rfl

def hullOk (h : THull) : Bool := inB h.Lot 1 1000 && (inB h.Sections.length 1 6 && (h.Sections.all secOk && (decide (lenS h.Sections ≤ 200) && decide ((cntS h.Sections : Int) ≤ 4))))
theorem Check_eq {h : THull} (hs : small h.Sections) : F_hull_Check h = bif hullOk h then some 0 else some 2 := by
  simp only [F_hull_Check, within1, Option.bind_some, hullOk]
  cases inB h.Lot 1 1000 with
  | false => rfl
  | true =>
    cases inB h.Sections.length 1 6 with
    | false => rfl
    | true =>
      simp only [Bool.not_true, cond_false, Bool.true_and]
      rw [every_HullSection (q := secOk) (fun x hx => validSection_eq (by have := (hs.2 x hx).2; omega)) (by have := hs.1; omega)]
      simp only [Option.bind_some]
      cases ha : h.Sections.all secOk with
      | false => rfl
      | true =>
        have hx : ∀ x ∈ h.Sections, Sec x := fun x hx => sec_of (List.all_eq_true.1 ha x hx)
        simp only [Bool.not_true, cond_false, Bool.true_and, length_eq hs.1 hx, holds_eq hs, Option.bind_some]
        by_cases c1 : lenS h.Sections > 200
        · simp [c1, show ¬ lenS h.Sections ≤ 200 by omega]
        · by_cases c2 : (cntS h.Sections : Int) > 4
          · simp [c1, show lenS h.Sections ≤ 200 by omega, c2, show ¬ (cntS h.Sections : Int) ≤ 4 by omega]
          · simp [c1, show lenS h.Sections ≤ 200 by omega, c2, show (cntS h.Sections : Int) ≤ 4 by omega]

/-! the reference's holds -/
def gH (t : Int) (x : THullHold) : THullHold := ⟨t + x.At, x.Lots⟩
def refH (h : THull) : List THullHold := (holdsS h.Sections 0).map fun p => ⟨p.2, p.1.Lots⟩
theorem holdsS_length : ∀ (m : List THullSection) (t : Int), (holdsS m t).length = cntS m
  | [], _ => rfl
  | x :: m, t => by simp [holdsS, cntS, holdsS_length m]
/-- A valid hull. -/
structure Hl (h : THull) : Prop where
  small : small h.Sections
  lot : 1 ≤ h.Lot ∧ h.Lot ≤ 1000
  one : 1 ≤ h.Sections.length ∧ h.Sections.length ≤ 6
  sec : ∀ x ∈ h.Sections, Sec x
  len : lenS h.Sections ≤ 200
  cnt : cntS h.Sections ≤ 4
theorem hl_of {h : THull} (hs : small h.Sections) (ho : hullOk h = true) : Hl h := by
  simp only [hullOk, Bool.and_eq_true, inB_iff, List.all_eq_true, decide_eq_true_eq] at ho
  obtain ⟨h1, h2, h3, h4, h5⟩ := ho
  exact ⟨hs, h1, by omega, fun x hx => sec_of (h3 x hx), h4, by omega⟩
theorem lenS_nonneg : ∀ {m : List THullSection}, (∀ x ∈ m, Sec x) → 0 ≤ lenS m
  | [], _ => Int.le_refl 0
  | x :: m, h => by
    have h1 := (h x (by simp)).len
    have h2 := lenS_nonneg (m := m) fun y hy => h y (by simp [hy])
    rw [lenS]; omega

/-! the ship -/
def armH (L f : Int) (x : THullHold) : Thull_hold := ⟨x, f + 2 * x.At⟩
def storS (L : Int) (l : List (THullHold × Int)) : List Thull_hold := l.map fun p => ⟨p.1, 2 * p.2 - L⟩
theorem stor_in (x : THullSection) (hsx : Sec x) (f : Int) (hf : -1000 ≤ f ∧ f ≤ 10000) (a0 : THull) (s4 s5 : Int) (x20 : THullRow) (s6 s7 s8 : Int) : ∀ (m : List THullHold) (j : Nat) (acc : List Thull_hold), x.Holds.drop j = m → acc.length + m.length ≤ 1000 → x.Holds.length ≤ 8 →
    loopC (L_hull_launch_1 f a0 s4 x s5 x20 s6 s7 s8).step ((j : Int), acc) = some (acc ++ m.map (armH 0 f))
  | [], j, acc, hd, _, _ => by
    have := drop_nil hd
    rw [loopC_eq]
    simp [L_hull_launch_1, show ¬ j < x.Holds.length by omega]
  | y :: m, j, acc, hd, ha, h8 => by
    obtain ⟨hj, hg, hd'⟩ := drop_cons hd
    have hb := hsx.holds y (by rw [← hg]; exact List.getElem_mem hj)
    have hl := hsx.len
    simp only [List.length_cons] at ha
    have e : (L_hull_launch_1 f a0 s4 x s5 x20 s6 s7 s8).step ((j : Int), acc) = some (.inl (((j + 1 : Nat) : Int), acc ++ [armH 0 f y])) := by
      simp only [L_hull_launch_1, Int.ofNat_lt, hj, decide_true, cond_true, idx?_nat hj, hg, Option.bind_some]
      rw [wr_nat (by omega), wr_in (n := 2 * y.At) (by omega) (by omega), wr_in (by omega) (by omega), app_of (by simp; omega) (by decide)]
      rfl
    rw [loopC_eq, e]
    simp only
    rw [stor_in x hsx f hf a0 s4 s5 x20 s6 s7 s8 m (j + 1) _ hd' (by simp; omega) h8]
    simp
theorem launch_loop (h : THull) (hs : small h.Sections) (L : Int) (hL : 0 ≤ L ∧ L ≤ 1000) : ∀ (m : List THullSection) (k : Nat) (t l tr ma mo : Int) (st : List Thull_hold), h.Sections.drop k = m → (∀ x ∈ m, Sec x) → k ≤ 10 → 0 ≤ t → t ≤ 100 * k → 0 ≤ tr → tr ≤ 100000 * k → 0 ≤ ma → ma ≤ 10000 * k → mo.natAbs ≤ 100000000 * k → st.length ≤ 8 * k →
    loopC (L_hull_launch_2 h).step (2 * t - L, (k : Int), l, tr, ma, mo, st) = some (limS m l, tr + trimS m, ma + lightS m, mo + momS L m t, st ++ storS L (holdsS m t))
  | [], k, t, l, tr, ma, mo, st, hd, _, _, _, _, _, _, _, _, _, _ => by
    have := drop_nil hd
    rw [loopC_eq]
    simp [L_hull_launch_2, limS, trimS, lightS, momS, storS, holdsS, show ¬ k < h.Sections.length by omega]
  | x :: m, k, t, l, tr, ma, mo, st, hd, hx, hk10, h0, h1, h2, h3, h4, h5, h6, h7 => by
    obtain ⟨hk, hg, hd'⟩ := drop_cons hd
    have hsx := hx x (by simp)
    have hl := hsx.len
    have hli := hsx.light
    have htr := hsx.trim
    have h10 := hs.1
    have h8 := (hs.2 _ (List.getElem_mem hk)).2
    have hc := hsx.cv.two
    have hc' := hsx.cv.most
    rw [hg] at h8
    have hp : (x.Light * (2 * t - L + x.Length)).natAbs ≤ 10000 * 4000 := mulB (by omega) (by omega)
    have e : (L_hull_launch_2 h).step (2 * t - L, (k : Int), l, tr, ma, mo, st) = some (.inl (2 * (t + x.Length) - L, ((k + 1 : Nat) : Int), minmax false l (lastD x), tr + x.Trim, ma + x.Light, mo + x.Light * (2 * t + x.Length - L), st ++ x.Holds.map (armH 0 (2 * t - L)))) := by
      simp only [L_hull_launch_2, Int.ofNat_lt, hk, decide_true, cond_true, idx?_nat hk, hg, Option.bind_some]
      rw [show wr (((x.Curve.length : Nat) : Int) - 1) = ((x.Curve.length - 1 : Nat) : Int) by rw [wr_in (by omega) (by omega)]; omega, idx?_nat (show x.Curve.length - 1 < x.Curve.length by omega)]
      simp only [Option.bind_some]
      rw [show ((0 : Int), st) = (((0 : Nat) : Int), st) from rfl, stor_in x hsx (2 * t - L) (by omega) h (k : Int) l x.Curve[x.Curve.length - 1] tr ma mo x.Holds 0 st rfl (by omega) h8]
      simp only [Option.bind_some]
      rw [wr_nat (by omega), wr_in (n := 2 * x.Length) (by omega) (by omega), wr_in (n := 2 * t - L + 2 * x.Length) (by omega) (by omega), wr_in (n := tr + x.Trim) (by omega) (by omega), wr_in (n := ma + x.Light) (by omega) (by omega),
        wr_in (n := 2 * t - L + x.Length) (by omega) (by omega), wr_in (n := x.Light * (2 * t - L + x.Length)) (by omega) (by omega), wr_in (n := mo + x.Light * (2 * t - L + x.Length)) (by omega) (by omega),
        rowD_get (show x.Curve.length - 1 < x.Curve.length by omega), show 2 * t - L + 2 * x.Length = 2 * (t + x.Length) - L by omega, show 2 * t - L + x.Length = 2 * t + x.Length - L by omega]
      rfl
    rw [show 2 * t - L + x.Length = 2 * t + x.Length - L by omega] at hp
    rw [loopC_eq, e]
    simp only
    rw [launch_loop h hs L hL m (k + 1) (t + x.Length) _ _ _ _ _ hd' (fun y hy => hx y (by simp [hy])) (by omega) (by omega) (by omega) (by omega) (by omega) (by omega) (by omega) (by omega) (by simp; omega)]
    simp only [limS, trimS, lightS, momS, storS, holdsS, List.map_append, List.map_map, Int.add_assoc, List.append_assoc, Option.some.injEq, Prod.mk.injEq, true_and]
    congr 2
    refine List.map_congr_left fun y _ => ?_
    simp only [armH, Function.comp_def, Thull_hold.mk.injEq, true_and]
    omega
/-- The ship of a valid hull. -/
def shipOf (h : THull) : Thull_ship := ⟨h, limS h.Sections 1000, trimS h.Sections, lightS h.Sections, momS (lenS h.Sections) h.Sections 0, storS (lenS h.Sections) (holdsS h.Sections 0)⟩
def noShip : Thull_ship := ⟨⟨0, []⟩, 0, 0, 0, 0, []⟩
theorem launch_eq {h : THull} (hs : small h.Sections) : F_hull_launch h = some (bif hullOk h then (shipOf h, 0) else (noShip, 2)) := by
  simp only [F_hull_launch, Check_eq hs]
  cases ho : hullOk h with
  | false => rfl
  | true =>
    have hh := hl_of hs ho
    have hn := lenS_nonneg hh.sec
    have hle := hh.len
    simp only [cond_true, Option.bind_some, bne_self_eq_false, cond_false, length_eq hs.1 hh.sec]
    rw [wr_in (n := 0 - lenS h.Sections) (by omega) (by omega), show ((0 : Int) - lenS h.Sections, (0 : Int), (1000 : Int), (0 : Int), (0 : Int), (0 : Int), ([] : List Thull_hold)) = (2 * 0 - lenS h.Sections, ((0 : Nat) : Int), 1000, 0, 0, 0, []) from rfl,
      launch_loop h hs (lenS h.Sections) (by omega) h.Sections 0 0 1000 0 0 0 [] rfl hh.sec (by omega) (by omega) (by omega) (by omega) (by omega) (by omega) (by omega) (by simp) (by simp)]
    simp only [Option.bind_some, Int.zero_add, List.nil_append]
    rfl
end Go.Ev
/- Chapter 2: volumes, and the least drafts. -/
set_option linter.unusedVariables false
set_option linter.unusedSimpArgs false
namespace Go.Ev
set_option maxHeartbeats 1000000

/-- The segment of a curve in which a draft lies. -/
def idxC (l : List THullRow) (d : Int) : Nat := (List.range (l.length - 1)).findIdx fun k => decide (d ≤ (rowD l (k + 1)).Draft)
def valC (l : List THullRow) (k : Nat) (d : Int) : Int := (rowD l k).Volume + Int.tdiv (((rowD l (k + 1)).Volume - (rowD l k).Volume) * (d - (rowD l k).Draft)) ((rowD l (k + 1)).Draft - (rowD l k).Draft)
def cvAt (l : List THullRow) (d : Int) : Int := valC l (idxC l d) d
theorem idx_spec {l : List THullRow} (h : Cv l) {d : Int} (hd : d ≤ (rowD l (l.length - 1)).Draft) : idxC l d + 1 < l.length ∧ d ≤ (rowD l (idxC l d + 1)).Draft ∧ ∀ j, j < idxC l d → (rowD l (j + 1)).Draft < d := by
  have h2 := h.two
  have hlt : idxC l d < (List.range (l.length - 1)).length := List.findIdx_lt_length_of_exists ⟨l.length - 2, List.mem_range.2 (by omega), by rw [show l.length - 2 + 1 = l.length - 1 by omega]; simpa using hd⟩
  have hlt' := hlt
  rw [List.length_range] at hlt'
  have key : ∀ k (hk : k < (List.range (l.length - 1)).length), (List.range (l.length - 1))[k] = k := fun k hk => List.getElem_range hk
  have hget : d ≤ (rowD l ((List.range (l.length - 1))[idxC l d] + 1)).Draft := of_decide_eq_true (List.findIdx_getElem (p := fun k => decide (d ≤ (rowD l (k + 1)).Draft)) (xs := List.range (l.length - 1)) (w := hlt))
  rw [key] at hget
  refine ⟨by omega, hget, fun j hj => ?_⟩
  have hjl : j < (List.range (l.length - 1)).length := by omega
  have := List.not_of_lt_findIdx (p := fun k => decide (d ≤ (rowD l (k + 1)).Draft)) (xs := List.range (l.length - 1)) (i := j) hj
  have h3 : ¬ d ≤ (rowD l ((List.range (l.length - 1))[j] + 1)).Draft := of_decide_eq_false (by simpa only [Bool.not_eq_true] using this)
  rw [key] at h3
  omega
/-- What is known of the segment. -/
structure Seg (l : List THullRow) (k : Nat) (d : Int) : Prop where
  lt : k + 1 < l.length
  lo : (rowD l k).Draft ≤ d
  hi : d ≤ (rowD l (k + 1)).Draft
theorem seg_of {l : List THullRow} (h : Cv l) {d : Int} (h0 : 0 ≤ d) (hd : d ≤ (rowD l (l.length - 1)).Draft) : Seg l (idxC l d) d := by
  obtain ⟨h1, h2, h3⟩ := idx_spec h hd
  refine ⟨h1, ?_, h2⟩
  cases hk : idxC l d with
  | zero => rw [h.d0]; exact h0
  | succ k => have := h3 k (by omega); omega
theorem val_bound {l : List THullRow} (h : Cv l) {k : Nat} {d : Int} (s : Seg l k d) : (rowD l k).Volume ≤ valC l k d ∧ valC l k d ≤ (rowD l (k + 1)).Volume := by
  obtain ⟨h1, h2, h3⟩ := s
  have hu := h.up k h1
  have hn : 0 ≤ ((rowD l (k + 1)).Volume - (rowD l k).Volume) * (d - (rowD l k).Draft) := Int.mul_nonneg (by omega) (by omega)
  have e := Int.tdiv_eq_ediv_of_nonneg (b := (rowD l (k + 1)).Draft - (rowD l k).Draft) hn
  have h0 : 0 ≤ ((rowD l (k + 1)).Volume - (rowD l k).Volume) * (d - (rowD l k).Draft) / ((rowD l (k + 1)).Draft - (rowD l k).Draft) := Int.ediv_nonneg hn (by omega)
  have hle : ((rowD l (k + 1)).Volume - (rowD l k).Volume) * (d - (rowD l k).Draft) / ((rowD l (k + 1)).Draft - (rowD l k).Draft) ≤ (rowD l (k + 1)).Volume - (rowD l k).Volume := by
    refine Int.ediv_le_of_le_mul (by omega) ?_
    exact Int.mul_le_mul_of_nonneg_left (by omega) (by omega)
  unfold valC
  rw [e]
  omega
theorem val_mono {l : List THullRow} (h : Cv l) {k : Nat} {d d' : Int} (s : Seg l k d) (hd : d ≤ d') : valC l k d ≤ valC l k d' := by
  obtain ⟨h1, h2, h3⟩ := s
  have hu := h.up k h1
  have hn : 0 ≤ ((rowD l (k + 1)).Volume - (rowD l k).Volume) * (d - (rowD l k).Draft) := Int.mul_nonneg (by omega) (by omega)
  have hm : ((rowD l (k + 1)).Volume - (rowD l k).Volume) * (d - (rowD l k).Draft) ≤ ((rowD l (k + 1)).Volume - (rowD l k).Volume) * (d' - (rowD l k).Draft) := Int.mul_le_mul_of_nonneg_left (by omega) (by omega)
  unfold valC
  rw [Int.tdiv_eq_ediv_of_nonneg hn, Int.tdiv_eq_ediv_of_nonneg (Int.le_trans hn hm)]
  have := Int.ediv_le_ediv (c := (rowD l (k + 1)).Draft - (rowD l k).Draft) (by omega) hm
  omega
theorem cv_mono {l : List THullRow} (h : Cv l) {d d' : Int} (h0 : 0 ≤ d) (hd : d ≤ d') (hd' : d' ≤ (rowD l (l.length - 1)).Draft) : cvAt l d ≤ cvAt l d' := by
  have s := seg_of h h0 (show d ≤ (rowD l (l.length - 1)).Draft by omega)
  have s' := seg_of h (show 0 ≤ d' by omega) hd'
  obtain ⟨a1, a2, a3⟩ := idx_spec h (show d ≤ (rowD l (l.length - 1)).Draft by omega)
  obtain ⟨b1, b2, b3⟩ := idx_spec h hd'
  rcases Nat.lt_trichotomy (idxC l d) (idxC l d') with c | c | c
  · have v := (val_bound h s).2
    have v' := (val_bound h s').1
    have := (h.le (i := idxC l d + 1) (j := idxC l d') c (by omega)).2
    unfold cvAt
    omega
  · unfold cvAt
    rw [← c]
    exact val_mono h s hd
  · have := a3 (idxC l d') c
    omega
theorem cv_bound {l : List THullRow} (h : Cv l) {d : Int} (h0 : 0 ≤ d) (hd : d ≤ (rowD l (l.length - 1)).Draft) : 0 ≤ cvAt l d ∧ cvAt l d ≤ 100000 := by
  have s := seg_of h h0 hd
  have v := val_bound h s
  have b1 := h.bounds (show idxC l d < l.length by have := s.lt; omega)
  have b2 := h.bounds s.lt
  unfold cvAt
  omega

theorem slc?_nat {α : Type} {l : List α} {j k : Nat} (h : j ≤ k) (h' : k ≤ l.length) : slc? l (j : Int) (k : Int) = some ((l.drop j).take (k - j)) := by
  unfold slc?
  rw [if_pos (by omega)]
  simp
theorem val_wr {l : List THullRow} (h : Cv l) {k : Nat} {d : Int} (s : Seg l k d) : wr ((rowD l k).Volume + wr (Int.tdiv (wr (wr ((rowD l (k + 1)).Volume - (rowD l k).Volume) * wr (d - (rowD l k).Draft))) (wr ((rowD l (k + 1)).Draft - (rowD l k).Draft)))) = valC l k d := by
  have b1 := h.bounds (show k < l.length by have := s.lt; omega)
  have b2 := h.bounds s.lt
  have v := val_bound h s
  have hlo := s.lo
  have hhi := s.hi
  have hp : (((rowD l (k + 1)).Volume - (rowD l k).Volume) * (d - (rowD l k).Draft)).natAbs ≤ 100000 * 1000 := mulB (by omega) (by omega)
  unfold valC at v ⊢
  rw [wr_in (n := (rowD l (k + 1)).Volume - (rowD l k).Volume) (by omega) (by omega), wr_in (n := d - (rowD l k).Draft) (by omega) (by omega), wr_in (n := ((rowD l (k + 1)).Volume - (rowD l k).Volume) * (d - (rowD l k).Draft)) (by omega) (by omega),
    wr_in (n := (rowD l (k + 1)).Draft - (rowD l k).Draft) (by omega) (by omega)]
  rw [wr_in (n := Int.tdiv _ _) (by omega) (by omega), wr_in (by omega) (by omega)]
theorem curveAt_eq {l : List THullRow} (h : Cv l) {d : Int} (h0 : 0 ≤ d) (hd : d ≤ (rowD l (l.length - 1)).Draft) : F_hull_curveAt (l, d) = some (cvAt l d) := by
  obtain ⟨a1, a2, a3⟩ := idx_spec h hd
  have s := seg_of h h0 hd
  have h20 := h.most
  have hu := h.up _ a1
  have b1 := h.bounds (show idxC l d < l.length by omega)
  have b2 := h.bounds a1
  simp only [F_hull_curveAt]
  rw [show slc? l 1 ((l.length : Nat) : Int) = some ((l.drop 1).take (l.length - 1)) from slc?_nat (j := 1) (by omega) (by omega), List.take_of_length_le (by simp)]
  simp only [Option.bind_some]
  have hi : ∀ g caps, F_slices_IndexFunc_L_HullRow_HullRow (l.drop 1, (fun q => F_hull_curveAt_1 (q, d)), g, caps) = some ((idxC l d : Nat) : Int) := by
    intro g caps
    have hget : ∀ k (hk : k < (l.drop 1).length), (l.drop 1)[k] = rowD l (k + 1) := by
      intro k hk
      rw [List.length_drop] at hk
      rw [List.getElem_drop, rowD_get (show 1 + k < l.length by omega), Nat.add_comm]
    have hloop : loopC (L_slices_IndexFunc_L_HullRow_HullRow_1 (l.drop 1) (fun q => F_hull_curveAt_1 (q, d)) g caps).step 0 = some (.inr ((idxC l d : Nat) : Int)) := by
      refine loop_run (E := Unit ⊕ Int) (fun k : Nat => (k : Int)) (idxC l d) (e := .inr ((idxC l d : Nat) : Int)) ?_ ?_
      · intro k hk
        have hkl : k < (l.drop 1).length := by rw [List.length_drop]; omega
        have := a3 k hk
        simp only [L_slices_IndexFunc_L_HullRow_HullRow_1, Int.ofNat_lt, hkl, decide_true, cond_true, idx?_nat hkl, Option.bind_some, hget k hkl, F_hull_curveAt_1]
        rw [show decide (d ≤ (rowD l (k + 1)).Draft) = false from decide_eq_false (by omega), wr_nat (by omega)]
        rfl
      · have hkl : idxC l d < (l.drop 1).length := by rw [List.length_drop]; omega
        simp only [L_slices_IndexFunc_L_HullRow_HullRow_1, Int.ofNat_lt, hkl, decide_true, cond_true, idx?_nat hkl, Option.bind_some, hget _ hkl, F_hull_curveAt_1]
        rw [show decide (d ≤ (rowD l (idxC l d + 1)).Draft) = true from decide_eq_true a2]
        rfl
    simp only [F_slices_IndexFunc_L_HullRow_HullRow, hloop, Option.bind_some]
  rw [hi]
  simp only [Option.bind_some]
  rw [idx?_nat (show idxC l d < l.length by omega), wr_nat (by omega), idx?_nat a1]
  simp only [Option.bind_some, rowD_get (show idxC l d < l.length by omega), rowD_get a1]
  rw [nz_of (show wr ((rowD l (idxC l d + 1)).Draft - (rowD l (idxC l d)).Draft) ≠ 0 by rw [wr_in (by omega) (by omega)]; omega)]
  simp only [Option.bind_some, val_wr h s]
  rfl
def volS : List THullSection → Int → Int
  | [], _ => 0
  | x :: m, d => cvAt x.Curve d + volS m d
/-- A draft that all sections have. -/
def fits (m : List THullSection) (d : Int) : Prop := 0 ≤ d ∧ ∀ x ∈ m, d ≤ lastD x
theorem lim_le : ∀ (m : List THullSection) (l : Int), limS m l ≤ l ∧ ∀ x ∈ m, limS m l ≤ lastD x
  | [], l => ⟨Int.le_refl l, by simp⟩
  | x :: m, l => by
    have h := lim_le m (minmax false l (lastD x))
    have e : minmax false l (lastD x) ≤ l ∧ minmax false l (lastD x) ≤ lastD x := by
      simp only [minmax, Bool.false_eq_true, if_false]; split <;> omega
    rw [limS]
    refine ⟨by omega, fun y hy => ?_⟩
    rcases List.mem_cons.1 hy with rfl | hy
    · omega
    · exact h.2 y hy
theorem lim_nonneg : ∀ (m : List THullSection) (l : Int), (∀ x ∈ m, Sec x) → 0 ≤ l → 0 ≤ limS m l
  | [], l, _, h => h
  | x :: m, l, hx, h => by
    have b := (hx x (by simp)).cv.bounds (show x.Curve.length - 1 < x.Curve.length by have := (hx x (by simp)).cv.two; omega)
    rw [limS]
    refine lim_nonneg m _ (fun y hy => hx y (by simp [hy])) ?_
    simp only [minmax, Bool.false_eq_true, if_false]
    have : 0 ≤ lastD x := b.1
    split <;> omega
theorem fits_of {m : List THullSection} {l d : Int} (h0 : 0 ≤ d) (h : d ≤ limS m l) : fits m d := ⟨h0, fun x hx => by have := (lim_le m l).2 x hx; omega⟩
theorem vol_mono : ∀ {m : List THullSection} {d d' : Int}, (∀ x ∈ m, Sec x) → 0 ≤ d → d ≤ d' → fits m d' → volS m d ≤ volS m d'
  | [], _, _, _, _, _, _ => Int.le_refl 0
  | x :: m, d, d', hx, h0, hd, hf => by
    have h1 := cv_mono (hx x (by simp)).cv h0 hd (hf.2 x (by simp))
    have h2 := vol_mono (m := m) (fun y hy => hx y (by simp [hy])) h0 hd ⟨hf.1, fun y hy => hf.2 y (by simp [hy])⟩
    rw [volS, volS]; omega
theorem vol_loop (s : Thull_ship) (hl : s.Hull.Sections.length ≤ 10) {d : Int} : ∀ (m : List THullSection) (k : Nat) (v : Int), s.Hull.Sections.drop k = m → (∀ x ∈ m, Sec x) → fits m d → 0 ≤ v → v ≤ 100000 * k → loopC (L_hull_ship_volume_1 d s).step (v, (k : Int)) = some (v + volS m d)
  | [], k, v, h, _, _, _, _ => by
    have := drop_nil h
    rw [loopC_eq]
    simp [L_hull_ship_volume_1, volS, show ¬ k < s.Hull.Sections.length by omega]
  | x :: m, k, v, h, hx, hf, h0, h1 => by
    obtain ⟨hk, hg, hd'⟩ := drop_cons h
    have hc := (hx x (by simp)).cv
    have b := cv_bound hc hf.1 (hf.2 x (by simp))
    have e : (L_hull_ship_volume_1 d s).step (v, (k : Int)) = some (.inl (v + cvAt x.Curve d, ((k + 1 : Nat) : Int))) := by
      simp only [L_hull_ship_volume_1, Int.ofNat_lt, hk, decide_true, cond_true, idx?_nat hk, hg, Option.bind_some, curveAt_eq hc hf.1 (hf.2 x (by simp))]
      rw [wr_nat (by omega), wr_in (by omega) (by omega)]
    rw [loopC_eq, e]
    simp only
    rw [vol_loop s hl m (k + 1) _ hd' (fun y hy => hx y (by simp [hy])) ⟨hf.1, fun y hy => hf.2 y (by simp [hy])⟩ (by omega) (by omega), volS, Int.add_assoc]
theorem volume_eq {s : Thull_ship} (hl : s.Hull.Sections.length ≤ 10) {d : Int} (hx : ∀ x ∈ s.Hull.Sections, Sec x) (hf : fits s.Hull.Sections d) : F_hull_ship_volume (s, d) = some (volS s.Hull.Sections d) := by
  simp only [F_hull_ship_volume]
  rw [show ((0 : Int), (0 : Int)) = (0, ((0 : Nat) : Int)) from rfl, vol_loop s hl s.Hull.Sections 0 0 rfl hx hf (by omega) (by omega), Int.zero_add]
  rfl
/-! sort.Search -/
theorem mid_eq {lo hi : Nat} (h : lo ≤ hi) (hh : hi ≤ 1000000) : wr (Int.fdiv (IntKind.wrap .u64 (wr ((lo : Int) + (hi : Int)))) 2) = (((lo + hi) / 2 : Nat) : Int) := by
  rw [wr_in (n := (lo : Int) + (hi : Int)) (by omega) (by omega)]
  have e : IntKind.wrap .u64 ((lo : Int) + (hi : Int)) = ((lo + hi : Nat) : Int) := by
    simp [IntKind.wrap, IntKind.bits, IntKind.signed]; omega
  rw [e, show Int.fdiv ((lo + hi : Nat) : Int) 2 = (((lo + hi) / 2 : Nat) : Int) by rw [Int.fdiv_eq_ediv_of_nonneg _ (by omega)]; omega, wr_in (by omega) (by omega)]
theorem search_loop {n : Nat} (hn : n ≤ 100000) (q : Nat → Bool) (p : Int → Option Bool) (g : FuncId) (caps : List V) (hp : ∀ k : Nat, k < n → p (k : Int) = some (q k)) (hm : ∀ j k, j ≤ k → k < n → q j = true → q k = true) : ∀ (d lo hi : Nat), hi - lo ≤ d → lo ≤ hi → hi ≤ n → (∀ j, j < lo → q j = false) → (hi < n → q hi = true) →
    ∃ r : Nat, r ≤ n ∧ loopC (L_sort_Search_1 p g caps).step ((lo : Int), (hi : Int)) = some (r : Int) ∧ (∀ j, j < r → q j = false) ∧ (r < n → q r = true)
  | d, lo, hi, hd, hlh, hhn, hlo, hhi => by
    by_cases c : lo < hi
    · have hmid : (lo + hi) / 2 < n := by omega
      have e : (L_sort_Search_1 p g caps).step ((lo : Int), (hi : Int)) = some (.inl (if q ((lo + hi) / 2) then ((lo : Int), (((lo + hi) / 2 : Nat) : Int)) else ((((lo + hi) / 2 + 1 : Nat) : Int), (hi : Int)))) := by
        simp only [L_sort_Search_1, Int.ofNat_lt, c, decide_true, cond_true]
        rw [mid_eq hlh (by omega), hp _ hmid]
        simp only [Option.bind_some]
        rw [wr_nat (by omega)]
        cases q ((lo + hi) / 2) <;> rfl
      cases d with
      | zero => omega
      | succ d =>
        rw [loopC_eq, e]
        simp only
        cases hq : q ((lo + hi) / 2) with
        | true =>
          simp only [if_true]
          exact search_loop hn q p g caps hp hm d lo ((lo + hi) / 2) (by omega) (by omega) (by omega) hlo (fun _ => hq)
        | false =>
          simp only [Bool.false_eq_true, if_false]
          refine search_loop hn q p g caps hp hm d ((lo + hi) / 2 + 1) hi (by omega) (by omega) hhn (fun j hj => ?_) hhi
          cases hj' : q j with
          | false => rfl
          | true => rw [hm j ((lo + hi) / 2) (by omega) hmid hj'] at hq; cases hq
    · obtain rfl : lo = hi := by omega
      refine ⟨lo, hhn, ?_, hlo, hhi⟩
      rw [loopC_eq]
      simp [L_sort_Search_1]
theorem search_eq {n : Nat} (hn : n ≤ 100000) (q : Nat → Bool) (p : Int → Option Bool) (g : FuncId) (caps : List V) (hp : ∀ k : Nat, k < n → p (k : Int) = some (q k)) (hm : ∀ j k, j ≤ k → k < n → q j = true → q k = true) :
    ∃ r : Nat, r ≤ n ∧ F_sort_Search ((n : Int), p, g, caps) = some (r : Int) ∧ (∀ j, j < r → q j = false) ∧ (r < n → q r = true) := by
  obtain ⟨r, h1, h2, h3, h4⟩ := search_loop hn q p g caps hp hm n 0 n (by omega) (by omega) (by omega) (fun j hj => by omega) (fun h => by omega)
  refine ⟨r, h1, ?_, h3, h4⟩
  simp only [F_sort_Search]
  rw [show ((0 : Int), ((n : Nat) : Int)) = (((0 : Nat) : Int), (n : Int)) from rfl, h2]
  rfl
end Go.Ev
/- Chapter 2: loads, and how deep a hull lies. -/
set_option linter.unusedVariables false
set_option linter.unusedSimpArgs false
namespace Go.Ev
set_option maxHeartbeats 1000000

theorem tdiv_tmod {a b : Int} (hb : 0 < b) : b * a.tdiv b + a.tmod b = a ∧ -b < a.tmod b ∧ a.tmod b < b ∧ (0 ≤ a → 0 ≤ a.tmod b) ∧ (a ≤ 0 → a.tmod b ≤ 0) := by
  refine ⟨Int.mul_tdiv_add_tmod a b, ?_, ?_, ?_, ?_⟩
  · rcases Int.le_total 0 a with h | h
    · have := Int.tmod_nonneg b h; omega
    · have h1 := Int.tmod_nonneg b (a := -a) (by omega)
      have h2 := Int.tmod_lt_of_pos (-a) hb
      rw [Int.neg_tmod] at h1 h2; omega
  · exact Int.tmod_lt_of_pos a hb
  · exact fun h => Int.tmod_nonneg b h
  · intro h
    have h1 := Int.tmod_nonneg b (a := -a) (by omega)
    rw [Int.neg_tmod] at h1; omega
theorem tdiv_le {a b : Int} (hb : 0 < b) : -a.natAbs ≤ a.tdiv b ∧ a.tdiv b ≤ a.natAbs := by
  have h : (a.tdiv b).natAbs ≤ a.natAbs := by
    rw [Int.natAbs_tdiv]; exact Nat.div_le_self _ _
  omega
theorem div_of {a b q r : Int} (hb : 0 < b) (h : r + b * q = a) (h0 : 0 ≤ r) (h1 : r < b) : a / b = q := ((Int.ediv_emod_unique hb).2 ⟨h, h0, h1⟩).1
theorem Down_eq {a b : Int} (hb : 0 < b) (ha : a.natAbs ≤ 4611686018427387904) : F_numbers_Down (a, b) = some (a / b) := by
  obtain ⟨h1, h2, h3, h4, h5⟩ := tdiv_tmod (a := a) hb
  have h6 := tdiv_le (a := a) hb
  simp only [F_numbers_Down, nz_of (show b ≠ 0 by omega), Option.bind_some]
  rw [wr_in (n := a.tdiv b) (by omega) (by omega)]
  by_cases c : a.tmod b < 0
  · rw [wr_in (n := a.tdiv b - 1) (by omega) (by omega), div_of (q := a.tdiv b - 1) (r := a.tmod b + b) hb (by rw [Int.mul_sub]; omega) (by omega) (by omega)]
    simp [c]
  · rw [div_of (q := a.tdiv b) (r := a.tmod b) hb (by omega) (by omega) (by omega)]
    simp [c]
theorem div_bound {a b : Int} (hb : 0 < b) : -a.natAbs ≤ a / b ∧ a / b ≤ a.natAbs := by
  have := Int.natAbs_ediv_le_natAbs a b
  omega
theorem Up_eq {a b : Int} (hb : 0 < b) (ha : a.natAbs ≤ 4611686018427387904) : F_numbers_Up (a, b) = some (-((-a) / b)) := by
  have h := div_bound (a := -a) hb
  simp only [F_numbers_Up]
  rw [wr_in (n := 0 - a) (by omega) (by omega), show 0 - a = -a by omega, Down_eq hb (by omega)]
  simp only [Option.bind_some]
  rw [wr_in (by omega) (by omega)]
  simp
/-- Less is needed of what is denser. -/
theorem ceil_mono {a c d : Int} (ha : 0 ≤ a) (hd : 0 < d) (hc : d ≤ c) : -((-a) / c) ≤ -((-a) / d) := by
  have h1 : (-a) / d * d ≤ -a := Int.ediv_mul_le _ (by omega)
  have h2 : (-a) / d ≤ 0 := by
    rcases Int.lt_or_le 0 ((-a) / d) with h | h
    · have := Int.mul_pos h hd; omega
    · exact h
  have h3 : (-a) / d ≤ (-a) / c := by
    refine (Int.le_ediv_iff_mul_le (by omega)).2 ?_
    have := Int.mul_le_mul_of_nonpos_left h2 hc
    omega
  omega

/-! loads -/
abbrev HL (h : THull) : List (THullHold × Int) := holdsS h.Sections 0
def sumL : List Int → Int
  | [] => 0
  | n :: l => n + sumL l
def momL (lot L : Int) : List Int → List (THullHold × Int) → Int
  | n :: l, p :: m => n * lot * (2 * p.2 - L) + momL lot L l m
  | _, _ => 0
theorem holdsS_mem : ∀ {m : List THullSection} {t : Int} {p : THullHold × Int}, (∀ x ∈ m, Sec x) → p ∈ holdsS m t → 0 ≤ p.1.Lots ∧ p.1.Lots ≤ 20 ∧ t ≤ p.2 ∧ p.2 ≤ t + lenS m
  | [], _, _, _, h => by cases h
  | x :: m, t, p, hx, h => by
    have hn := lenS_nonneg (m := m) fun y hy => hx y (by simp [hy])
    have hs := hx x (by simp)
    have hl := hs.len
    rw [lenS]
    rcases List.mem_append.1 h with h | h
    · obtain ⟨y, hy, rfl⟩ := List.mem_map.1 h
      have := hs.holds y hy
      simp only
      omega
    · have := holdsS_mem (m := m) (t := t + x.Length) (fun y hy => hx y (by simp [hy])) h
      omega
theorem HL_len {h : THull} (hh : Hl h) : (HL h).length ≤ 4 := by rw [holdsS_length]; exact hh.cnt
theorem HL_mem {h : THull} (hh : Hl h) {p : THullHold × Int} (hp : p ∈ HL h) : 0 ≤ p.1.Lots ∧ p.1.Lots ≤ 20 ∧ 0 ≤ p.2 ∧ p.2 ≤ lenS h.Sections := by
  have := holdsS_mem hh.sec hp
  omega
def loadAll (h : THull) (l : List Int) : Bool := (l.zip (HL h)).all fun p => inB p.1 0 p.2.1.Lots
theorem checkLoad_eq {h : THull} (hh : Hl h) (l : List Int) : F_hull_ship_checkLoad (shipOf h, l) = some (if l.length = (HL h).length then (if loadAll h l then 0 else 3) else 4) := by
  have h4 := HL_len hh
  simp only [F_hull_ship_checkLoad, shipOf, storS, List.length_map]
  by_cases c : l.length = (HL h).length
  · rw [if_pos c, show (((l.length : Nat) : Int) != (((HL h).length : Nat) : Int)) = false by rw [c]; simp]
    simp only [cond_false]
    have hzl : (l.zip (HL h)).length = l.length := by rw [List.length_zip]; omega
    rw [loop_list0 (l.zip (HL h)) (fun p => inB p.1 0 p.2.1.Lots) (e := .inl ()) (f := .inr 3)]
    · rw [show loadAll h l = (l.zip (HL h)).all fun p => inB p.1 0 p.2.1.Lots from rfl]
      cases (l.zip (HL h)).all fun p => inB p.1 0 p.2.1.Lots <;> rfl
    · intro k hk
      rw [hzl] at hk
      have hk2 : k < (HL h).length := by omega
      simp only [L_hull_ship_checkLoad_1, Int.ofNat_lt, hk, decide_true, cond_true, idx?_nat hk, Option.bind_some]
      rw [idx?_nat (show k < ((HL h).map fun p => (⟨p.1, 2 * p.2 - lenS h.Sections⟩ : Thull_hold)).length by rw [List.length_map]; exact hk2)]
      simp only [Option.bind_some, List.getElem_map, within1, List.getElem_zip]
      rw [wr_nat (by omega)]
      cases inB l[k] 0 (HL h)[k].1.Lots <;> rfl
    · rw [hzl]; simp [L_hull_ship_checkLoad_1]
  · rw [if_neg c, show (((l.length : Nat) : Int) != (((HL h).length : Nat) : Int)) = true by rw [bne_iff_ne]; omega]
    rfl
def loadE (h : THull) (l : List Int) (d : TBounds) : Int := if l.length = (HL h).length then (if loadAll h l then (if vB d 900 1100 then 0 else 2) else 3) else 4
/-- A load that the holds can take. -/
structure Ld (h : THull) (l : List Int) : Prop where
  hull : Hl h
  len : l.length = (HL h).length
  each : ∀ n ∈ l, 0 ≤ n ∧ n ≤ 20
theorem ld_of {h : THull} (hh : Hl h) {l : List Int} (c : l.length = (HL h).length) (ha : loadAll h l = true) : Ld h l := by
  refine ⟨hh, c, fun n hn => ?_⟩
  obtain ⟨k, hk, rfl⟩ := List.getElem_of_mem hn
  have hz : k < (l.zip (HL h)).length := by rw [List.length_zip]; omega
  have := List.all_eq_true.1 ha _ (List.getElem_mem hz)
  rw [List.getElem_zip] at this
  simp only [inB_iff] at this
  have hm := HL_mem hh (List.getElem_mem (show k < (HL h).length by omega))
  omega
theorem prod_bound {n lot a : Int} (hn : 0 ≤ n ∧ n ≤ 20) (hl : 1 ≤ lot ∧ lot ≤ 1000) (ha : a.natAbs ≤ 1000) : (n * lot).natAbs ≤ 20000 ∧ 0 ≤ n * lot ∧ (n * lot * a).natAbs ≤ 20000000 := by
  have h1 : (n * lot).natAbs ≤ 20 * 1000 := mulB (by omega) (by omega)
  have h2 : (n * lot * a).natAbs ≤ 20000 * 1000 := mulB (by omega) ha
  have h3 : 0 ≤ n * lot := Int.mul_nonneg hn.1 (by omega)
  omega
theorem loaded_loop {h : THull} (hh : Hl h) (l : List Int) (hl : l.length ≤ 4) : ∀ (ns : List Int) (ps : List (THullHold × Int)) (k : Nat) (v w : Int), l.drop k = ns → (HL h).drop k = ps → ns.length = ps.length → (∀ n ∈ ns, 0 ≤ n ∧ n ≤ 20) → 0 ≤ v → v ≤ 20 * k → w.natAbs ≤ 1000000000 + 20000000 * k →
    loopC (L_hull_ship_loaded_1 l (shipOf h)).step (v, w, (k : Int)) = some (v + sumL ns, w + momL h.Lot (lenS h.Sections) ns ps)
  | [], ps, k, v, w, hd, _, _, _, _, _, _ => by
    have := drop_nil hd
    rw [loopC_eq]
    simp [L_hull_ship_loaded_1, sumL, momL, show ¬ k < l.length by omega]
  | n :: ns, [], k, v, w, _, _, hln, _, _, _, _ => by simp at hln
  | n :: ns, p :: ps, k, v, w, hd, hp, hln, hn, h0, h1, h2 => by
    obtain ⟨hk, hg, hd'⟩ := drop_cons hd
    obtain ⟨hk2, hg2, hp'⟩ := drop_cons hp
    have hb := hn n (by simp)
    have hlot := hh.lot
    have hm := HL_mem hh (List.getElem_mem hk2)
    have hL := hh.len
    have hL0 := lenS_nonneg hh.sec
    rw [hg2] at hm
    obtain ⟨b1, b2, b3⟩ := prod_bound hb hlot (show (2 * p.2 - lenS h.Sections).natAbs ≤ 1000 by omega)
    have e : (L_hull_ship_loaded_1 l (shipOf h)).step (v, w, (k : Int)) = some (.inl (v + n, w + n * h.Lot * (2 * p.2 - lenS h.Sections), ((k + 1 : Nat) : Int))) := by
      simp only [L_hull_ship_loaded_1, shipOf, storS, Int.ofNat_lt, hk, decide_true, cond_true, idx?_nat hk, hg, Option.bind_some]
      rw [idx?_nat (show k < ((HL h).map fun p => (⟨p.1, 2 * p.2 - lenS h.Sections⟩ : Thull_hold)).length by rw [List.length_map]; exact hk2)]
      simp only [Option.bind_some, List.getElem_map, hg2]
      rw [wr_nat (by omega), wr_in (n := v + n) (by omega) (by omega), wr_in (n := n * h.Lot) (by omega) (by omega), wr_in (n := n * h.Lot * (2 * p.2 - lenS h.Sections)) (by omega) (by omega), wr_in (by omega) (by omega)]
    rw [loopC_eq, e]
    simp only
    rw [loaded_loop hh l hl ns ps (k + 1) _ _ hd' hp' (by simpa using hln) (fun y hy => hn y (by simp [hy])) (by omega) (by omega) (by omega)]
    simp only [sumL, momL, Int.add_assoc]
theorem momS_bound {L : Int} (hL : 0 ≤ L ∧ L ≤ 1000) : ∀ (m : List THullSection) (t : Int), (∀ x ∈ m, Sec x) → 0 ≤ t → t + 100 * m.length ≤ 1000 → (momS L m t).natAbs ≤ 40000000 * m.length
  | [], _, _, _, _ => by simp [momS]
  | x :: m, t, hx, h0, h1 => by
    have hs := hx x (by simp)
    have hl := hs.len
    have hli := hs.light
    simp only [List.length_cons] at h1 ⊢
    have hp : (x.Light * (2 * t + x.Length - L)).natAbs ≤ 10000 * 4000 := mulB (by omega) (by omega)
    have := momS_bound hL m (t + x.Length) (fun y hy => hx y (by simp [hy])) (by omega) (by omega)
    rw [momS]
    omega
/-- The moment of a loaded hull. -/
def momOf (h : THull) (l : List Int) : Int := momS (lenS h.Sections) h.Sections 0 + momL h.Lot (lenS h.Sections) l (HL h)
theorem mom0_bound {h : THull} (hh : Hl h) : (momS (lenS h.Sections) h.Sections 0).natAbs ≤ 240000000 := by
  have := momS_bound (L := lenS h.Sections) ⟨lenS_nonneg hh.sec, by have := hh.len; omega⟩ h.Sections 0 hh.sec (by omega) (by have := hh.one; omega)
  have := hh.one
  omega
theorem loaded_eq {h : THull} {l : List Int} (hl : Ld h l) : F_hull_ship_loaded (shipOf h, l) = some (sumL l, momOf h l) := by
  have hh := hl.hull
  have h4 := HL_len hh
  have hm := mom0_bound hh
  simp only [F_hull_ship_loaded]
  rw [show ((0 : Int), (shipOf h).moment_, (0 : Int)) = (0, momS (lenS h.Sections) h.Sections 0, ((0 : Nat) : Int)) from rfl, loaded_loop hh l (by have := hl.len; omega) l (HL h) 0 0 _ rfl rfl hl.len hl.each (by omega) (by omega) (by omega), Int.zero_add]
  rfl
theorem momL_bound {lot L : Int} (hlot : 1 ≤ lot ∧ lot ≤ 1000) : ∀ (ns : List Int) (ps : List (THullHold × Int)), (∀ n ∈ ns, 0 ≤ n ∧ n ≤ 20) → (∀ p ∈ ps, (2 * p.2 - L).natAbs ≤ 1000) → (momL lot L ns ps).natAbs ≤ 20000000 * ns.length
  | [], ps, _, _ => by simp [momL]
  | n :: ns, [], _, _ => by simp [momL]
  | n :: ns, p :: ps, hn, hp => by
    obtain ⟨_, _, b3⟩ := prod_bound (hn n (by simp)) hlot (hp p (by simp))
    have := momL_bound (L := L) hlot ns ps (fun y hy => hn y (by simp [hy])) (fun y hy => hp y (by simp [hy]))
    rw [momL, List.length_cons]
    omega
theorem momOf_bound {h : THull} {l : List Int} (hl : Ld h l) : (momOf h l).natAbs ≤ 400000000 := by
  have hh := hl.hull
  have h4 := HL_len hh
  have hm := mom0_bound hh
  have hL := hh.len
  have hL0 := lenS_nonneg hh.sec
  have := momL_bound (L := lenS h.Sections) hh.lot l (HL h) hl.each (fun p hp => by have := HL_mem hh hp; omega)
  have := hl.len
  unfold momOf
  omega

theorem sums_bound : ∀ {m : List THullSection}, (∀ x ∈ m, Sec x) → 0 ≤ lightS m ∧ lightS m ≤ 10000 * m.length ∧ (m.length : Int) ≤ trimS m ∧ trimS m ≤ 100000 * m.length
  | [], _ => by simp [lightS, trimS]
  | x :: m, h => by
    have h1 := (h x (by simp)).light
    have h2 := (h x (by simp)).trim
    have h3 := sums_bound (m := m) fun y hy => h y (by simp [hy])
    rw [lightS, trimS, List.length_cons]; omega
theorem sumL_bound : ∀ {ns : List Int}, (∀ n ∈ ns, 0 ≤ n ∧ n ≤ 20) → 0 ≤ sumL ns ∧ sumL ns ≤ 20 * ns.length
  | [], _ => by simp [sumL]
  | n :: ns, h => by
    have h1 := h n (by simp)
    have h2 := sumL_bound (ns := ns) fun y hy => h y (by simp [hy])
    rw [sumL, List.length_cons]; omega
/-- The mass of a loaded hull. -/
def massOf (h : THull) (l : List Int) : Int := lightS h.Sections + sumL l * h.Lot
theorem mass_bound {h : THull} {l : List Int} (hl : Ld h l) : 0 ≤ massOf h l ∧ massOf h l ≤ 140000 ∧ 0 ≤ sumL l * h.Lot ∧ sumL l * h.Lot ≤ 80000 ∧ lightS h.Sections ≤ 60000 ∧ 0 ≤ lightS h.Sections := by
  have hh := hl.hull
  have h4 := HL_len hh
  have h5 := hl.len
  have h6 := hh.one
  have h7 := sums_bound hh.sec
  have h8 := sumL_bound hl.each
  have h9 : (sumL l * h.Lot).natAbs ≤ 80 * 1000 := mulB (by omega) (by have := hh.lot; omega)
  have h10 : 0 ≤ sumL l * h.Lot := Int.mul_nonneg h8.1 (by have := hh.lot; omega)
  unfold massOf
  omega
/-- By how much the deeper end is deeper. -/
def moreOf (h : THull) (l : List Int) : Int := -((-(minmax true (momOf h l) (0 - momOf h l))) / (4 * trimS h.Sections))
theorem abs_bound {h : THull} {l : List Int} (hl : Ld h l) : 0 ≤ minmax true (momOf h l) (0 - momOf h l) ∧ minmax true (momOf h l) (0 - momOf h l) ≤ 400000000 := by
  have := momOf_bound hl
  simp only [minmax, if_true]
  split <;> omega
theorem trim_pos {h : THull} (hh : Hl h) : 1 ≤ trimS h.Sections ∧ trimS h.Sections ≤ 600000 := by
  have := sums_bound hh.sec
  have := hh.one
  omega
theorem more_bound {h : THull} {l : List Int} (hl : Ld h l) : 0 ≤ moreOf h l ∧ moreOf h l ≤ 400000000 := by
  have h1 := abs_bound hl
  have h2 := trim_pos hl.hull
  have h3 := div_bound (a := -(minmax true (momOf h l) (0 - momOf h l))) (b := 4 * trimS h.Sections) (by omega)
  have h4 : (-(minmax true (momOf h l) (0 - momOf h l))) / (4 * trimS h.Sections) ≤ 0 := by
    have := Int.ediv_le_ediv (c := 4 * trimS h.Sections) (by omega) (show -(minmax true (momOf h l) (0 - momOf h l)) ≤ 0 by omega)
    rwa [Int.zero_ediv] at this
  unfold moreOf
  omega
/-! the mean draft -/
def needOf (h : THull) (l : List Int) (d : Int) : Int := -((-(massOf h l * 1000)) / d)
theorem mean_eq {h : THull} {l : List Int} (hl : Ld h l) {lim : Nat} (hlim : limS h.Sections 1000 = (lim : Int)) {d : Int} (h9 : 900 ≤ d) (h11 : d ≤ 1100) : ∃ r : Nat, r ≤ lim + 1 ∧ F_hull_ship_mean (shipOf h, sumL l, d) = some (r : Int) ∧
    (∀ j : Nat, j < r → volS h.Sections j < needOf h l d) ∧ (r ≤ lim → needOf h l d ≤ volS h.Sections r) := by
  have hh := hl.hull
  have hb := mass_bound hl
  have h10 := hh.small.1
  have hle := (lim_le h.Sections 1000).1
  have hfit : ∀ k : Nat, k ≤ lim → fits h.Sections (k : Int) := fun k hk => fits_of (l := 1000) (by omega) (by omega)
  obtain ⟨r, r1, r2, r3, r4⟩ := search_eq (n := lim + 1) (by omega) (fun k => decide (volS h.Sections (k : Int) ≥ needOf h l d)) (fun q => F_hull_ship_mean_1 (q, shipOf h, needOf h l d)) 91
    [(V.fptr [(V.v (.int .i64 ((shipOf h).Hull.Lot))), (V.sl (recs eTHullSection ((shipOf h).Hull.Sections)) ((shipOf h).Hull.Sections).length), (V.v (.int .i64 ((shipOf h).limit_))), (V.v (.int .i64 ((shipOf h).trim_))), (V.v (.int .i64 ((shipOf h).mass_))), (V.v (.int .i64 ((shipOf h).moment_))), (V.sl (recs eThull_hold ((shipOf h).storage_)) ((shipOf h).storage_).length)]), (V.fptr [(V.v (.int .i64 (needOf h l d)))])]
    (fun k hk => by simp only [F_hull_ship_mean_1, volume_eq (s := shipOf h) h10 hh.sec (hfit k (by omega)), Option.bind_some]; rfl)
    (fun j k hjk hk hq => by
      have := vol_mono (m := h.Sections) (d := (j : Int)) (d' := (k : Int)) hh.sec (by omega) (by omega) (hfit k (by omega))
      simp only [decide_eq_true_eq] at hq ⊢
      omega)
  have r3' : ∀ j : Nat, j < r → volS h.Sections j < needOf h l d := fun j hj => by have := r3 j hj; simp only [decide_eq_false_iff_not] at this; omega
  have r4' : r ≤ lim → needOf h l d ≤ volS h.Sections r := fun hr => by have := r4 (by omega); simp only [decide_eq_true_eq] at this; omega
  refine ⟨r, r1, ?_, r3', r4'⟩
  · simp only [F_hull_ship_mean]
    rw [show (shipOf h).mass_ = lightS h.Sections from rfl, show (shipOf h).Hull.Lot = h.Lot from rfl, show (shipOf h).limit_ = (lim : Int) from hlim, wr_in (n := sumL l * h.Lot) (by omega) (by omega), wr_in (n := lightS h.Sections + sumL l * h.Lot) (by omega) (by omega),
      show lightS h.Sections + sumL l * h.Lot = massOf h l from rfl, wr_in (n := massOf h l * 1000) (by omega) (by omega), Up_eq (by omega) (by omega)]
    simp only [Option.bind_some]
    rw [wr_nat (by omega), show -((-(massOf h l * 1000)) / d) = needOf h l d from rfl]
    have := r2
    rw [show (shipOf h).limit_ = (lim : Int) from hlim, show (shipOf h).mass_ = lightS h.Sections from rfl, show (shipOf h).Hull.Lot = h.Lot from rfl] at this
    rw [this]
    rfl
theorem compare_eq (m : Int) : F_cmp_Compare_int (m, 0) = some (if m < 0 then -1 else if m > 0 then 1 else 0) := by
  simp only [F_cmp_Compare_int, F_cmp_isNaN_int, Option.bind_some, bne_self_eq_false, cond_false]
  by_cases c1 : m < 0
  · simp [c1]
  · by_cases c2 : m > 0
    · simp [c1, c2]
    · simp [c1, c2]
def noFloat : THullFloat := ⟨⟨0, 0⟩, ⟨0, 0⟩, 0⟩
theorem float_val {h : THull} {l : List Int} (hl : Ld h l) {d : TBounds} (hd : vB d 900 1100 = true) : ∃ lim r s : Nat, limS h.Sections 1000 = (lim : Int) ∧ r ≤ lim + 1 ∧ s ≤ lim + 1 ∧ (∀ j : Nat, j < r → volS h.Sections j < needOf h l d.High) ∧ (r ≤ lim → needOf h l d.High ≤ volS h.Sections r) ∧ (∀ j : Nat, j < s → volS h.Sections j < needOf h l d.Low) ∧ (s ≤ lim → needOf h l d.Low ≤ volS h.Sections s) ∧
    F_hull_ship_float (shipOf h, l, d) = some (bif decide ((s : Int) + moreOf h l > (lim : Int)) then (noFloat, 8) else (⟨⟨r, s⟩, ⟨r + moreOf h l, s + moreOf h l⟩, if momOf h l < 0 then -1 else if momOf h l > 0 then 1 else 0⟩, 0)) := by
  have hh := hl.hull
  simp only [vB, inB, Bool.and_eq_true, decide_eq_true_eq] at hd
  obtain ⟨lim, hlim⟩ := Int.eq_ofNat_of_zero_le (lim_nonneg h.Sections 1000 hh.sec (by omega))
  have hle := (lim_le h.Sections 1000).1
  obtain ⟨r, r1, r2, r4, r5⟩ := mean_eq hl hlim (d := d.High) (by omega) (by omega)
  obtain ⟨s, s1, s2, s4, s5⟩ := mean_eq hl hlim (d := d.Low) (by omega) (by omega)
  have hmb := mass_bound hl
  have hneed : needOf h l d.High ≤ needOf h l d.Low := ceil_mono (by omega) (by omega) (by omega)
  have hrs : s ≤ lim → r ≤ s := by
    intro hs
    rcases Nat.lt_or_ge s r with c | c
    · have := r4 s c; have := s5 hs; omega
    · exact c
  have hmo := more_bound hl
  have hm := momOf_bound hl
  have ha := abs_bound hl
  have ht := trim_pos hh
  have e : F_hull_ship_float (shipOf h, l, d) = some (bif decide ((s : Int) + moreOf h l > (lim : Int)) then (noFloat, 8) else (⟨⟨r, s⟩, ⟨r + moreOf h l, s + moreOf h l⟩, if momOf h l < 0 then -1 else if momOf h l > 0 then 1 else 0⟩, 0)) := by
    simp only [F_hull_ship_float, loaded_eq hl, Option.bind_some, r2, s2, F_hull_withoutSign]
    rw [wr_in (n := 0 - momOf h l) (by omega) (by omega), show (shipOf h).trim_ = trimS h.Sections from rfl, wr_in (n := 4 * trimS h.Sections) (by omega) (by omega), Up_eq (by omega) (by omega)]
    simp only [Option.bind_some]
    rw [show -((-(minmax true (momOf h l) (0 - momOf h l))) / (4 * trimS h.Sections)) = moreOf h l from rfl, wr_in (n := (s : Int) + moreOf h l) (by omega) (by omega), wr_in (n := (r : Int) + moreOf h l) (by omega) (by omega), show (shipOf h).limit_ = (lim : Int) from hlim, compare_eq]
    cases decide ((s : Int) + moreOf h l > (lim : Int)) <;> rfl
  exact ⟨lim, r, s, hlim, r1, s1, r4, r5, s4, s5, e⟩
end Go.Ev
/- Chapter 2: the law HullFloats is true. -/
set_option linter.unusedVariables false
set_option linter.unusedSimpArgs false
namespace Go.Ev
set_option maxHeartbeats 1000000

theorem app_nil' {α : Type} {m : List α} {n : Nat} (h : m.length * n ≤ 140737488355328) (hn : 0 < n) : app? [] m n = some m := app_nil h hn
def greatOk (x : THullSection) : Bool := decide (x.Curve.length ≤ 25) && decide (x.Holds.length ≤ 8)
theorem own_eq {h : THull} (hs : small h.Sections) : F_thalweglaw02_own h = some h := by
  have hloop : loopC (L_thalweglaw02_own_1 h).step (0, ([] : List THullSection)) = some h.Sections := by
    refine loop_run (fun k : Nat => ((k : Int), h.Sections.take k)) h.Sections.length (e := h.Sections) (fun k hk => ?_) ?_
    · have h10 := hs.1
      have hb := hs.2 _ (List.getElem_mem hk)
      simp only [L_thalweglaw02_own_1, Int.ofNat_lt, hk, decide_true, cond_true, idx?_nat hk, Option.bind_some]
      rw [app_nil (m := h.Sections[k].Curve) (n := 16) (by omega) (by decide), app_nil (m := h.Sections[k].Holds) (n := 16) (by omega) (by decide)]
      simp only [Option.bind_some]
      rw [app_of (by simp; omega) (by decide), wr_nat (by omega)]
      simp only [Option.bind_some, List.take_succ_eq_append_getElem hk]
    · simp [L_thalweglaw02_own_1]
  simp only [F_thalweglaw02_own, hloop]
  rfl
theorem knownZ_eq : F_thalweglaw02_known () = some true := rfl
theorem Volume_eq {h : THull} (hs : small h.Sections) (d : Int) : F_hull_Volume (h, d) = some (bif hullOk h then (bif inB d 0 (limS h.Sections 1000) then (volS h.Sections d, 0) else (0, 3)) else (0, 2)) := by
  simp only [F_hull_Volume, launch_eq hs, Option.bind_some]
  cases ho : hullOk h with
  | false => rfl
  | true =>
    have hh := hl_of hs ho
    simp only [cond_true, bne_self_eq_false, cond_false, within1, Option.bind_some, show (shipOf h).limit_ = limS h.Sections 1000 from rfl]
    cases hi : inB d 0 (limS h.Sections 1000) with
    | false => rfl
    | true =>
      rw [inB_iff] at hi
      simp only [Bool.not_true, cond_false, cond_true, volume_eq (s := shipOf h) hs.1 hh.sec (fits_of hi.1 hi.2), Option.bind_some]
      rfl
theorem float_self (a : THullFloat) : (a.Mean.Low == a.Mean.Low && (a.Mean.High == a.Mean.High && (a.Deep.Low == a.Deep.Low && (a.Deep.High == a.Deep.High && (a.Head == a.Head && true))))) = true := by simp
end Go.Ev
/- Chapter 2: the law HullLeast is true. -/
set_option linter.unusedVariables false
set_option linter.unusedSimpArgs false
namespace Go.Ev
set_option maxHeartbeats 1000000

/-! small hulls -/
abbrev byte (n : Int) : Prop := 0 ≤ n ∧ n ≤ 255
structure By5 (v : Tanon111) : Prop where
  b0 : byte v.a0
  b1 : byte v.a1
  b2 : byte v.a2
  b3 : byte v.a3
  b4 : byte v.a4
def secV (v : Tanon111) : THullSection := ⟨(wr (10 + (Int.tmod (wr (v.a0)) 20))), (Int.tmod (wr (v.a3)) 60), (wr (1 + (wr (v.a4)))), ([(⟨0, 0⟩ : THullRow), (⟨(wr (40 + (Int.tmod (wr (v.a1)) 100))), (wr (60 + (wr (v.a2))))⟩ : THullRow), (⟨(wr ((wr ((wr (40 + (Int.tmod (wr (v.a1)) 100))) + 50)) + (wr (v.a0)))), (wr ((wr ((wr (60 + (wr (v.a2)))) + 200)) + (wr (2 * (wr (v.a1))))))⟩ : THullRow)] : List THullRow), ([(⟨(Int.tmod (wr (v.a4)) 11), (Int.tmod (wr (v.a2)) 6)⟩ : THullHold)] : List THullHold)⟩
theorem tmod_byte {n m : Int} (h : byte n) (hm : 0 < m) : 0 ≤ n.tmod m ∧ n.tmod m < m := ⟨Int.tmod_nonneg m h.1, Int.tmod_lt_of_pos n hm⟩
theorem secV_eq {v : Tanon111} (h : By5 v) : ∃ a b c d e f g i j : Int, secV v = ⟨a, b, c, [⟨0, 0⟩, ⟨d, e⟩, ⟨f, g⟩], [⟨i, j⟩]⟩ ∧ (10 ≤ a ∧ a ≤ 29) ∧ (0 ≤ b ∧ b ≤ 59) ∧ (1 ≤ c ∧ c ≤ 256) ∧ (40 ≤ d ∧ d ≤ 139) ∧ (60 ≤ e ∧ e ≤ 315) ∧ (d + 50 ≤ f ∧ f ≤ 444) ∧ (e + 200 ≤ g ∧ g ≤ 1025) ∧ (0 ≤ i ∧ i ≤ 10) ∧ (0 ≤ j ∧ j ≤ 5) := by
  obtain ⟨h0, h1, h2, h3, h4⟩ := h
  have m0 := tmod_byte (m := 20) h0 (by omega)
  have m1 := tmod_byte (m := 100) h1 (by omega)
  have m2 := tmod_byte (m := 6) h2 (by omega)
  have m3 := tmod_byte (m := 60) h3 (by omega)
  have m4 := tmod_byte (m := 11) h4 (by omega)
  simp only [secV]
  rw [wr_in (n := v.a0) (by omega) (by omega), wr_in (n := v.a1) (by omega) (by omega), wr_in (n := v.a2) (by omega) (by omega), wr_in (n := v.a3) (by omega) (by omega), wr_in (n := v.a4) (by omega) (by omega),
    wr_in (n := 10 + v.a0.tmod 20) (by omega) (by omega), wr_in (n := 1 + v.a4) (by omega) (by omega), wr_in (n := 40 + v.a1.tmod 100) (by omega) (by omega), wr_in (n := 60 + v.a2) (by omega) (by omega),
    wr_in (n := 40 + v.a1.tmod 100 + 50) (by omega) (by omega), wr_in (n := 40 + v.a1.tmod 100 + 50 + v.a0) (by omega) (by omega), wr_in (n := 60 + v.a2 + 200) (by omega) (by omega), wr_in (n := 2 * v.a1) (by omega) (by omega), wr_in (n := 60 + v.a2 + 200 + 2 * v.a1) (by omega) (by omega)]
  exact ⟨_, _, _, _, _, _, _, _, _, rfl, by omega, by omega, by omega, by omega, by omega, by omega, by omega, by omega, by omega⟩
/-- A section made of bytes. -/
structure SmS (x : THullSection) : Prop where
  ok : secOk x = true
  len : x.Length ≤ 29
  cur : x.Curve.length = 3
  one : ∃ y, x.Holds = [y] ∧ 0 ≤ y.Lots ∧ y.Lots ≤ 5
theorem secV_sm {v : Tanon111} (h : By5 v) : SmS (secV v) := by
  obtain ⟨a, b, c, d, e, f, g, i, j, he, ha, hb, hc, hd, hee, hf, hg, hi, hj⟩ := secV_eq h
  rw [he]
  refine ⟨?_, ha.2, rfl, ⟨_, rfl, hj.1, hj.2⟩⟩
  have hr : (List.range 2) = [0, 1] := rfl
  simp [secOk, inB, cvOk, rowD, upAt, holdOk, hr]
  omega

/-- How many sections. -/
def cntV (x : Tthalweglaw02_Small) (m : Nat) : Nat := if x.Sections.length = 0 then 1 else min x.Sections.length m
def secsV (x : Tthalweglaw02_Small) (n : Nat) : List THullSection := (List.range n).map fun i => secV (x.Sections[i]?.getD ⟨0, 0, 0, 0, 0⟩)
structure SmK (x : Tthalweglaw02_Small) : Prop where
  lot : byte x.Lot
  secs : ∀ v ∈ x.Sections, By5 v
  l0 : byte x.Load.a0
  l1 : byte x.Load.a1
  l2 : byte x.Load.a2
  l3 : byte x.Load.a3
  d0 : byte x.Density.a0
  d1 : byte x.Density.a1
theorem secsV_sm {x : Tthalweglaw02_Small} (h : SmK x) (n : Nat) : ∀ s ∈ secsV x n, SmS s := by
  intro s hs
  obtain ⟨i, _, rfl⟩ := List.mem_map.1 hs
  refine secV_sm ?_
  cases hi : x.Sections[i]? with
  | none => exact ⟨by simp [byte], by simp [byte], by simp [byte], by simp [byte], by simp [byte]⟩
  | some v => exact h.secs v (List.mem_of_getElem? hi)
def hullV (x : Tthalweglaw02_Small) (m : Nat) : THull := ⟨wr (1 + Int.tmod (wr x.Lot) 30), secsV x (cntV x m)⟩
theorem hull_eq (x : Tthalweglaw02_Small) {m : Nat} (h1 : 1 ≤ m) (h4 : m ≤ 4) : F_thalweglaw02_Small_hull (x, (m : Int)) = some (hullV x m) := by
  have hn : cntV x m ≤ 4 ∧ 1 ≤ cntV x m := by unfold cntV; split <;> omega
  have hloop : loopC (L_thalweglaw02_Small_hull_1 (m : Int) x).step (0, ([] : List THullSection)) = some (secsV x (cntV x m)) := by
    refine loop_run (fun k : Nat => ((k : Int), secsV x k)) (cntV x m) (e := secsV x (cntV x m)) (fun k hk => ?_) ?_
    · have happ : ∀ s, app? (secsV x k) [s] 72 = some (secsV x k ++ [s]) := fun s => app_of (by simp [secsV]; omega) (by decide)
      have hnext : ∀ s, s = secV (x.Sections[k]?.getD ⟨0, 0, 0, 0, 0⟩) → secsV x k ++ [s] = secsV x (k + 1) := by
        rintro s rfl
        simp [secsV, List.range_succ]
      by_cases c0 : k = 0
      · subst c0
        by_cases c1 : 0 < x.Sections.length
        · simp only [L_thalweglaw02_Small_hull_1]
          rw [show (((0 : Nat) : Int) == 0) = true from rfl, show decide (((0 : Nat) : Int) < (x.Sections.length : Int)) = true from decide_eq_true (by omega)]
          simp only [cond_true, idx?_nat c1, Option.bind_some, happ]
          rw [hnext _ (by rw [List.getElem?_eq_getElem c1]; rfl)]
          rfl
        · simp only [L_thalweglaw02_Small_hull_1]
          rw [show (((0 : Nat) : Int) == 0) = true from rfl, show decide (((0 : Nat) : Int) < (x.Sections.length : Int)) = false from decide_eq_false (by omega)]
          simp only [cond_true, cond_false, Option.bind_some, happ]
          rw [hnext _ (by rw [List.getElem?_eq_none (by omega)]; rfl)]
          rfl
      · have hk1 : k < x.Sections.length ∧ k < m := by unfold cntV at hk; split at hk <;> omega
        simp only [L_thalweglaw02_Small_hull_1]
        rw [show (((k : Nat) : Int) == 0) = false from by rw [beq_eq_false_iff_ne]; omega, show decide (((k : Nat) : Int) < (x.Sections.length : Int)) = true from decide_eq_true (by omega), show decide (((k : Nat) : Int) < (m : Int)) = true from decide_eq_true (by omega)]
        simp only [cond_true, cond_false, idx?_nat hk1.1, Option.bind_some, happ]
        rw [hnext _ (by rw [List.getElem?_eq_getElem hk1.1]; rfl), wr_nat (by omega)]
    · simp only [L_thalweglaw02_Small_hull_1]
      rw [show (((cntV x m : Nat) : Int) == 0) = false from by rw [beq_eq_false_iff_ne]; omega]
      simp only [cond_false]
      by_cases c : cntV x m < x.Sections.length
      · have : ¬ cntV x m < m := by
          unfold cntV at c ⊢
          by_cases c2 : x.Sections.length = 0
          · rw [if_pos c2] at c; omega
          · rw [if_neg c2] at c ⊢; omega
        rw [show decide (((cntV x m : Nat) : Int) < (x.Sections.length : Int)) = true from decide_eq_true (by omega), show decide (((cntV x m : Nat) : Int) < (m : Int)) = false from decide_eq_false (by omega)]
        rfl
      · rw [show decide (((cntV x m : Nat) : Int) < (x.Sections.length : Int)) = false from decide_eq_false (by omega)]
        rfl
  simp only [F_thalweglaw02_Small_hull, hloop]
  rfl

/-- A hull of few sections made of bytes. -/
structure SmH (h : THull) : Prop where
  lot : 1 ≤ h.Lot ∧ h.Lot ≤ 30
  one : 1 ≤ h.Sections.length ∧ h.Sections.length ≤ 4
  sec : ∀ s ∈ h.Sections, SmS s
theorem hullV_sm {x : Tthalweglaw02_Small} (h : SmK x) {m : Nat} (h1 : 1 ≤ m) (h4 : m ≤ 4) : SmH (hullV x m) := by
  have hn : cntV x m ≤ 4 ∧ 1 ≤ cntV x m := by unfold cntV; split <;> omega
  have hl := h.lot
  have m0 := tmod_byte (m := 30) hl (by omega)
  refine ⟨?_, ?_, secsV_sm h _⟩
  · simp only [hullV]
    rw [wr_in (n := x.Lot) (by omega) (by omega), wr_in (by omega) (by omega)]
    omega
  · simp [hullV, secsV]; omega
theorem SmH.small {h : THull} (hs : SmH h) : small h.Sections := by
  refine ⟨by have := hs.one; omega, fun x hx => ?_⟩
  have hx := hs.sec x hx
  obtain ⟨y, hy, _⟩ := hx.one
  rw [hx.cur, hy]; simp
theorem lenS_sm : ∀ {m : List THullSection}, (∀ s ∈ m, SmS s) → lenS m ≤ 29 * m.length
  | [], _ => by simp [lenS]
  | x :: m, h => by
    have h1 := (h x (by simp)).len
    have h2 := lenS_sm (m := m) fun y hy => h y (by simp [hy])
    rw [lenS]; simp; omega
theorem cntS_sm : ∀ {m : List THullSection}, (∀ s ∈ m, SmS s) → cntS m = m.length
  | [], _ => rfl
  | x :: m, h => by
    obtain ⟨y, hy, _⟩ := (h x (by simp)).one
    have h2 := cntS_sm (m := m) fun y hy => h y (by simp [hy])
    rw [cntS, h2, hy]; simp; omega
theorem SmH.ok {h : THull} (hs : SmH h) : hullOk h = true := by
  have h1 := lenS_sm hs.sec
  have h2 := cntS_sm hs.sec
  have h3 := hs.one
  have h4 := hs.lot
  simp only [hullOk, Bool.and_eq_true, inB_iff, List.all_eq_true, decide_eq_true_eq]
  exact ⟨by omega, by omega, fun s hx => (hs.sec s hx).ok, by omega, by omega⟩
theorem SmH.hl {h : THull} (hs : SmH h) : Hl h := hl_of hs.small hs.ok
/-- The hold of a section. -/
def hold1 (s : THullSection) : THullHold := s.Holds[0]?.getD ⟨0, 0⟩
theorem hold1_eq {s : THullSection} (h : SmS s) : s.Holds = [hold1 s] ∧ 0 ≤ (hold1 s).Lots ∧ (hold1 s).Lots ≤ 5 := by
  obtain ⟨y, hy, h1, h2⟩ := h.one
  simp [hold1, hy, h1, h2]
theorem holdsS_sm : ∀ {m : List THullSection} (t : Int), (∀ s ∈ m, SmS s) → (holdsS m t).map (·.1) = m.map hold1
  | [], _, _ => rfl
  | x :: m, t, h => by
    obtain ⟨hy, _⟩ := hold1_eq (h x (by simp))
    have h2 := holdsS_sm (m := m) (t + x.Length) fun y hy => h y (by simp [hy])
    rw [holdsS, List.map_append, h2, hy]
    simp
/-- A load that a hull made of bytes can have. -/
structure SmL (h : THull) (l : List Int) : Prop where
  len : l.length = h.Sections.length
  fit : ∀ (i : Nat) (hi : i < l.length) (hj : i < h.Sections.length), 0 ≤ l[i] ∧ l[i] ≤ (hold1 h.Sections[i]).Lots
theorem smL_all {h : THull} (hs : SmH h) {l : List Int} (hl : SmL h l) : l.length = (HL h).length ∧ loadAll h l = true := by
  have e := holdsS_sm 0 hs.sec
  have elen : (HL h).length = h.Sections.length := by have := congrArg List.length e; simpa using this
  refine ⟨by rw [elen, hl.len], ?_⟩
  unfold loadAll
  rw [List.all_eq_true]
  intro p hp
  obtain ⟨i, hi⟩ := List.getElem?_of_mem hp
  rw [List.getElem?_zip_eq_some] at hi
  obtain ⟨h1, h2⟩ := hi
  obtain ⟨i1, e1⟩ := List.getElem?_eq_some_iff.1 h1
  obtain ⟨i2, e2⟩ := List.getElem?_eq_some_iff.1 h2
  have i3 : i < h.Sections.length := by omega
  have := hl.fit i i1 i3
  rw [inB_iff, ← e1]
  have e3 : (HL h)[i].1 = hold1 h.Sections[i] := by
    have := congrArg (fun x => x[i]?) e
    simpa [i2, i3] using this
  rw [← e2, e3]
  exact this
theorem smL_ld {h : THull} (hs : SmH h) {l : List Int} (hl : SmL h l) : Ld h l := ld_of hs.hl (smL_all hs hl).1 (smL_all hs hl).2
theorem Float_sm {h : THull} (hs : SmH h) {l : List Int} (hl : SmL h l) {d : TBounds} (hd : vB d 900 1100 = true) : F_hull_Float (h, l, d) = F_hull_ship_float (shipOf h, l, d) := by
  obtain ⟨c1, c2⟩ := smL_all hs hl
  simp only [F_hull_Float, launch_eq hs.small, Option.bind_some, hs.ok, cond_true, bne_self_eq_false, cond_false, checkLoad_eq hs.hl l, F_hull_validDensity, valid_eq]
  rw [if_pos c1, c2]
  simp only [if_true, bne_self_eq_false, cond_false, Option.bind_some, hd, Bool.not_true]
  cases F_hull_ship_float (shipOf h, l, d) <;> rfl
end Go.Ev
/- Chapter 2: the law HullLeast is true. -/
set_option linter.unusedVariables false
set_option linter.unusedSimpArgs false
namespace Go.Ev
set_option maxHeartbeats 2000000

def ldA (x : Tthalweglaw02_Small) : Nat → Int
  | 0 => x.Load.a0
  | 1 => x.Load.a1
  | 2 => x.Load.a2
  | _ => x.Load.a3
theorem ldA_byte {x : Tthalweglaw02_Small} (h : SmK x) : ∀ k, byte (ldA x k)
  | 0 => h.l0
  | 1 => h.l1
  | 2 => h.l2
  | _ + 3 => h.l3
def loadV (x : Tthalweglaw02_Small) (h : THull) (n : Nat) : List Int := (List.range n).map fun i => Int.tmod (wr (ldA x i)) (wr ((hold1 (h.Sections[i]?.getD ⟨0, 0, 0, [], []⟩)).Lots + 1))
theorem load_eq {x : Tthalweglaw02_Small} {h : THull} (hs : SmH h) : F_thalweglaw02_Small_load (x, h) = some (loadV x h h.Sections.length) := by
  have hone := hs.one
  have hloop : loopC (L_thalweglaw02_Small_load_1 x h).step (0, ([] : List Int)) = some (loadV x h h.Sections.length) := by
    refine loop_run (fun k : Nat => ((k : Int), loadV x h k)) h.Sections.length (e := loadV x h h.Sections.length) (fun k hk => ?_) ?_
    · have happ : ∀ s, app? (loadV x h k) [s] 8 = some (loadV x h k ++ [s]) := fun s => app_of (by simp [loadV]; omega) (by decide)
      obtain ⟨ho, hb⟩ := hold1_eq (hs.sec _ (List.getElem_mem hk))
      have hi : idx? h.Sections[k].Holds 0 = some (hold1 h.Sections[k]) := by rw [ho]; rfl
      have hn : nz? (wr ((hold1 h.Sections[k]).Lots + 1)) = some () := nz_of (by rw [wr_in (by omega) (by omega)]; omega)
      have hnext : loadV x h (k + 1) = loadV x h k ++ [Int.tmod (wr (ldA x k)) (wr ((hold1 h.Sections[k]).Lots + 1))] := by
        simp [loadV, List.range_succ, hk]
      rw [hnext]
      simp only [L_thalweglaw02_Small_load_1, Int.ofNat_lt, hk, decide_true, cond_true, idx?_nat hk, Option.bind_some, hi, hn, happ]
      rw [wr_nat (by omega)]
      rcases (show k = 0 ∨ k = 1 ∨ k = 2 ∨ k = 3 by omega) with rfl | rfl | rfl | rfl <;> rfl
    · simp [L_thalweglaw02_Small_load_1]
  simp only [F_thalweglaw02_Small_load, hloop]
  rfl
theorem loadV_sm {x : Tthalweglaw02_Small} (hk : SmK x) {h : THull} (hs : SmH h) : SmL h (loadV x h h.Sections.length) := by
  refine ⟨by simp [loadV], fun i hi hj => ?_⟩
  obtain ⟨ho, hb⟩ := hold1_eq (hs.sec _ (List.getElem_mem hj))
  have hbt := ldA_byte hk i
  simp only [loadV, List.getElem_map, List.getElem_range, List.getElem?_eq_getElem hj, Option.getD_some]
  rw [wr_in (n := ldA x i) (by omega) (by omega), wr_in (n := (hold1 h.Sections[i]).Lots + 1) (by omega) (by omega)]
  have := tmod_byte (m := (hold1 h.Sections[i]).Lots + 1) hbt (by omega)
  omega
theorem density_eq {x : Tthalweglaw02_Small} (hk : SmK x) : ∃ a b : Int, F_thalweglaw02_Small_density x = some ⟨a, b⟩ ∧ 900 ≤ a ∧ a ≤ b ∧ b ≤ 1078 := by
  have h0 := hk.d0
  have h1 := hk.d1
  have hm : byte (minmax false x.Density.a0 x.Density.a1) ∧ byte (minmax true x.Density.a0 x.Density.a1) := by
    simp only [minmax, Bool.false_eq_true, if_false, if_true]
    constructor <;> split <;> assumption
  have m0 := tmod_byte (m := 130) hm.1 (by omega)
  have m1 := tmod_byte (m := 50) hm.2 (by omega)
  have b0 := hm.1
  have b1 := hm.2
  refine ⟨_, _, rfl, ?_⟩
  rw [wr_in (n := minmax false x.Density.a0 x.Density.a1) (by omega) (by omega), wr_in (n := minmax true x.Density.a0 x.Density.a1) (by omega) (by omega), wr_in (n := 900 + _) (by omega) (by omega), wr_in (by omega) (by omega)]
  omega
theorem numbers_eq {l : List Int} (hl : l.length ≤ 1000) : F_thalweglaw02_numbers l = some l := by
  simp only [F_thalweglaw02_numbers]
  rw [app_nil (m := l) (n := 8) (by omega) (by decide)]
  rfl

/-! what is needed -/
theorem need_iff {M v d : Int} (hd : 0 < d) : -((-M) / d) ≤ v ↔ M ≤ v * d := by
  have h := Int.le_ediv_iff_mul_le (a := -v) (b := -M) hd
  have e : -v * d = -(v * d) := Int.neg_mul v d
  rw [e] at h
  constructor
  · intro h1
    have := h.1 (by omega)
    omega
  · intro h1
    have := h.2 (by omega)
    omega
theorem vol_bnd : ∀ {m : List THullSection} {d : Int}, (∀ x ∈ m, Sec x) → fits m d → 0 ≤ volS m d ∧ volS m d ≤ 100000 * m.length
  | [], _, _, _ => by simp [volS]
  | x :: m, d, hx, hf => by
    have b := cv_bound (hx x (by simp)).cv hf.1 (hf.2 x (by simp))
    have h2 := vol_bnd (m := m) (fun y hy => hx y (by simp [hy])) ⟨hf.1, fun y hy => hf.2 y (by simp [hy])⟩
    rw [volS]; simp; omega
theorem lightS_app : ∀ (a b : List THullSection), lightS (a ++ b) = lightS a + lightS b
  | [], b => by simp [lightS]
  | x :: a, b => by rw [List.cons_append, lightS, lightS, lightS_app a b]; omega
theorem sumL_app : ∀ (a b : List Int), sumL (a ++ b) = sumL a + sumL b
  | [], b => by simp [sumL]
  | x :: a, b => by rw [List.cons_append, sumL, sumL, sumL_app a b]; omega
theorem more_zero {h : THull} {l : List Int} (hl : Ld h l) : moreOf h l = 0 ↔ momOf h l = 0 := by
  have hb := more_bound hl
  have ht := trim_pos hl.hull
  have e : moreOf h l ≤ 0 ↔ minmax true (momOf h l) (0 - momOf h l) ≤ 0 * (4 * trimS h.Sections) := need_iff (by omega)
  rw [Int.zero_mul] at e
  have e2 : minmax true (momOf h l) (0 - momOf h l) ≤ 0 ↔ momOf h l = 0 := by
    simp only [minmax, if_true]
    split <;> omega
  omega
/-- How deep a load lies. -/
structure Lies (h : THull) (l : List Int) (d : TBounds) (lim r s : Nat) : Prop where
  lim_eq : limS h.Sections 1000 = (lim : Int)
  rl : r ≤ lim + 1
  sl : s ≤ lim + 1
  rlo : ∀ j : Nat, j < r → volS h.Sections j < needOf h l d.High
  rhi : r ≤ lim → needOf h l d.High ≤ volS h.Sections r
  slo : ∀ j : Nat, j < s → volS h.Sections j < needOf h l d.Low
  shi : s ≤ lim → needOf h l d.Low ≤ volS h.Sections s
def outF (h : THull) (l : List Int) (lim r s : Nat) : THullFloat × Int := bif decide ((s : Int) + moreOf h l > (lim : Int)) then (noFloat, 8) else (⟨⟨r, s⟩, ⟨r + moreOf h l, s + moreOf h l⟩, if momOf h l < 0 then -1 else if momOf h l > 0 then 1 else 0⟩, 0)
theorem float_lies {h : THull} (hs : SmH h) {l : List Int} (hl : SmL h l) {a b : Int} (h1 : 900 ≤ a) (h2 : a ≤ b) (h3 : b ≤ 1100) : ∃ lim r s : Nat, Lies h l ⟨a, b⟩ lim r s ∧ F_hull_Float (h, l, ⟨a, b⟩) = some (outF h l lim r s) := by
  have hd : vB ⟨a, b⟩ 900 1100 = true := by simp [vB, inB]; omega
  obtain ⟨lim, r, s, e1, e2, e3, e4, e5, e6, e7, e8⟩ := float_val (smL_ld hs hl) hd
  exact ⟨lim, r, s, ⟨e1, e2, e3, e4, e5, e6, e7⟩, by rw [Float_sm hs hl hd, e8]; rfl⟩
theorem Vol_sm {h : THull} (hs : SmH h) {lim k : Nat} (hlim : limS h.Sections 1000 = (lim : Int)) (hk : k ≤ lim) : F_hull_Volume (h, (k : Int)) = some (volS h.Sections k, 0) := by
  rw [Volume_eq hs.small, hs.ok, hlim, show inB (k : Int) 0 (lim : Int) = true from inB_iff.2 (by omega)]
  rfl
/-- Less is needed: it lies no deeper. -/
theorem lies_le {h : THull} {l l' : List Int} {d d' : TBounds} {lim lim' r s r' s' : Nat} (h1 : Lies h l d lim r s) (h2 : Lies h l' d' lim' r' s') (n1 : needOf h l' d'.High ≤ needOf h l d.High) (n2 : needOf h l' d'.Low ≤ needOf h l d.Low) :
    lim' = lim ∧ r' ≤ r ∧ s' ≤ s := by
  have e : lim' = lim := by have := h1.lim_eq; have := h2.lim_eq; omega
  subst e
  refine ⟨rfl, ?_, ?_⟩
  · rcases Nat.lt_or_ge r r' with c | c
    · have a := h2.rlo r c
      have hr := h2.rl
      have b := h1.rhi (by omega)
      omega
    · exact c
  · rcases Nat.lt_or_ge s s' with c | c
    · have a := h2.slo s c
      have hr := h2.sl
      have b := h1.shi (by omega)
      omega
    · exact c
theorem need_dens {h : THull} {l : List Int} (hl : Ld h l) {c d : Int} (hd : 0 < d) (hc : d ≤ c) : needOf h l c ≤ needOf h l d := ceil_mono (by have := mass_bound hl; omega) hd hc
theorem need_mass {h : THull} {l l' : List Int} {d : Int} (hd : 0 < d) (hm : massOf h l ≤ massOf h l') : needOf h l d ≤ needOf h l' d := by
  unfold needOf
  rw [need_iff hd]
  have := (need_iff (M := massOf h l' * 1000) (v := -((-(massOf h l' * 1000)) / d)) hd).1 (Int.le_refl _)
  omega
/-- The mean drafts are the least ones. -/
theorem mean_ok {h : THull} (hs : SmH h) {l : List Int} (hl : Ld h l) {lim r : Nat} {d : Int} (hd : 900 ≤ d ∧ d ≤ 1100) (hlim : limS h.Sections 1000 = (lim : Int)) (hr : r ≤ lim) (lo : ∀ j : Nat, j < r → volS h.Sections j < needOf h l d) (hi : needOf h l d ≤ volS h.Sections r) :
    massOf h l * 1000 ≤ volS h.Sections r * d ∧ (0 < r → volS h.Sections ((r - 1 : Nat) : Int) * d < massOf h l * 1000 ∧ volS h.Sections ((r - 1 : Nat) : Int) ≤ volS h.Sections r ∧ 0 ≤ volS h.Sections ((r - 1 : Nat) : Int)) ∧ 0 ≤ volS h.Sections r ∧ volS h.Sections r ≤ 400000 := by
  have h1000 := (lim_le h.Sections 1000).1
  have hf : fits h.Sections (r : Int) := fits_of (l := 1000) (by omega) (by omega)
  have hb := vol_bnd hs.hl.sec hf
  have ho := hs.one
  refine ⟨(need_iff (by omega)).1 hi, fun h0 => ?_, hb.1, by omega⟩
  have h2 := lo (r - 1) (by omega)
  have hf' : fits h.Sections ((r - 1 : Nat) : Int) := fits_of (l := 1000) (by omega) (by omega)
  refine ⟨?_, vol_mono hs.hl.sec (by omega) (by omega) hf, (vol_bnd hs.hl.sec hf').1⟩
  rcases Int.lt_or_le (volS h.Sections ((r - 1 : Nat) : Int) * d) (massOf h l * 1000) with c | c
  · exact c
  · have := (need_iff (M := massOf h l * 1000) (by omega)).2 c
    unfold needOf at h2
    omega
end Go.Ev
/- Chapter 2: the law HullLeast is true. -/
set_option linter.unusedVariables false
set_option linter.unusedSimpArgs false
namespace Go.Ev
set_option maxHeartbeats 4000000

theorem mass_loop {h : THull} (hs : SmH h) {l : List Int} (hl : SmL h l) (a1 a2 : Int) (d : TBounds) (y6 : THullFloat × Int) : loopC (L_thalweglaw02_HullLeast_1 a1 a2 l d h y6).step (0, 0) = some (massOf h l) := by
  have hone := hs.one
  have hlen := hl.len
  rw [show ((0 : Int), (0 : Int)) = (lightS (h.Sections.take 0) + sumL (l.take 0) * h.Lot, ((0 : Nat) : Int)) by simp [lightS, sumL]]
  refine loop_run (fun k : Nat => (lightS (h.Sections.take k) + sumL (l.take k) * h.Lot, (k : Int))) h.Sections.length (e := massOf h l) (fun k hk => ?_) ?_
  · have hk2 : k < l.length := by omega
    have hsec := sec_of (hs.sec _ (List.getElem_mem hk)).ok
    obtain ⟨ho, hb⟩ := hold1_eq (hs.sec _ (List.getElem_mem hk))
    have hf := hl.fit k hk2 hk
    have hlot := hs.lot
    have b1 : 0 ≤ l[k] * h.Lot ∧ l[k] * h.Lot ≤ 5 * 30 := ⟨Int.mul_nonneg hf.1 (by omega), Int.mul_le_mul (by omega) hlot.2 (by omega) (by omega)⟩
    have hl1 := sums_bound (m := h.Sections.take k) fun s hx => sec_of (hs.sec _ (List.mem_of_mem_take hx)).ok
    have hl2 := sumL_bound (ns := l.take k) fun n hn => (smL_ld hs hl).each n (List.mem_of_mem_take hn)
    have t1 : (h.Sections.take k).length ≤ 4 := by rw [List.length_take]; omega
    have t2 : (l.take k).length ≤ 4 := by rw [List.length_take]; omega
    have b2 : 0 ≤ sumL (l.take k) * h.Lot ∧ sumL (l.take k) * h.Lot ≤ 80 * 30 := ⟨Int.mul_nonneg hl2.1 (by omega), Int.mul_le_mul (by omega) hlot.2 (by omega) (by omega)⟩
    have b3 := hsec.light
    simp only [L_thalweglaw02_HullLeast_1, Int.ofNat_lt, hk, decide_true, cond_true, idx?_nat hk, idx?_nat hk2, Option.bind_some]
    rw [wr_in (n := l[k] * h.Lot) (by omega) (by omega), wr_in (n := h.Sections[k].Light + l[k] * h.Lot) (by omega) (by omega), wr_in (by omega) (by omega), wr_nat (by omega),
      List.take_succ_eq_append_getElem hk, List.take_succ_eq_append_getElem hk2, lightS_app, sumL_app, Int.add_mul]
    simp only [lightS, sumL, Int.add_zero]
    congr 3
    omega
  · simp only [L_thalweglaw02_HullLeast_1]
    rw [show decide (((h.Sections.length : Nat) : Int) < (h.Sections.length : Int)) = false from decide_eq_false (by omega)]
    rw [List.take_of_length_le (Nat.le_refl _), List.take_of_length_le (by omega)]
    rfl

theorem checks {h : THull} (hs : SmH h) {l : List Int} (hl : SmL h l) (a1 a2 : Int) {a b : Int} (h1 : 900 ≤ a) (h2 : a ≤ b) (h3 : b ≤ 1100) {lim r s : Nat} (hy : Lies h l ⟨a, b⟩ lim r s) (hr : r ≤ lim) (hs' : s ≤ lim) (y6 : THullFloat × Int) (e1 : y6.1.Mean.Low = (r : Int)) (e2 : y6.1.Mean.High = (s : Int)) :
    loopC (L_thalweglaw02_HullLeast_2 a1 a2 (massOf h l) l ⟨a, b⟩ h y6).step 0 = some (.inl ()) := by
  have hld := smL_ld hs hl
  have hmb := mass_bound hld
  have hr' := mean_ok hs hld (lim := lim) (r := r) (d := b) (by omega) hy.lim_eq hr hy.rlo (hy.rhi hr)
  have hs2 := mean_ok hs hld (lim := lim) (r := s) (d := a) (by omega) hy.lim_eq hs' hy.slo (hy.shi hs')
  have hown := own_eq hs.small
  have hmul : ∀ {v d : Int}, 0 ≤ v → v ≤ 400000 → 900 ≤ d → d ≤ 1100 → wr (v * d) = v * d := by
    intro v d p1 p2 p3 p4
    have q1 : 0 ≤ v * d := Int.mul_nonneg p1 (by omega)
    have q2 : v * d ≤ 400000 * 1100 := Int.mul_le_mul p2 p4 (by omega) (by omega)
    exact wr_in (by omega) (by omega)
  refine loop_run (E := Unit ⊕ Bool) (fun k : Nat => (k : Int)) 2 (e := .inl ()) (fun k hk => ?_) ?_
  · rcases (show k = 0 ∨ k = 1 by omega) with rfl | rfl
    · simp only [L_thalweglaw02_HullLeast_2]
      rw [show decide (((0 : Nat) : Int) < 2) = true from rfl, show (((0 : Nat) : Int) == 0) = true from rfl]
      simp only [cond_true, hown, Option.bind_some, e1, Vol_sm hs hy.lim_eq hr, bne_self_eq_false, cond_false]
      rw [show decide (((r : Nat) : Int) < 0) = false from decide_eq_false (by omega), hmul hr'.2.2.1 hr'.2.2.2 (by omega) (by omega), wr_in (n := massOf h l * 1000) (by omega) (by omega), show decide (volS h.Sections (r : Int) * b < massOf h l * 1000) = false from decide_eq_false (by omega)]
      simp only [cond_false]
      by_cases c : 0 < r
      · obtain ⟨q1, q2, q3⟩ := hr'.2.1 c
        rw [show decide (((r : Nat) : Int) > 0) = true from decide_eq_true (by omega), show wr ((r : Int) - 1) = ((r - 1 : Nat) : Int) from by rw [wr_in (by have := hy.lim_eq; have := (lim_le h.Sections 1000).1; omega) (by have := hy.lim_eq; have := (lim_le h.Sections 1000).1; omega)]; omega]
        simp only [cond_true, Vol_sm hs hy.lim_eq (show r - 1 ≤ lim by omega), Option.bind_some, bne_self_eq_false, cond_false]
        rw [hmul q3 (by omega) (by omega) (by omega), show decide (volS h.Sections ((r - 1 : Nat) : Int) * b ≥ massOf h l * 1000) = false from decide_eq_false (by omega), show decide (volS h.Sections ((r - 1 : Nat) : Int) > volS h.Sections (r : Int)) = false from decide_eq_false (by omega)]
        rfl
      · rw [show decide (((r : Nat) : Int) > 0) = false from decide_eq_false (by omega)]
        rfl
    · simp only [L_thalweglaw02_HullLeast_2]
      rw [show decide (((1 : Nat) : Int) < 2) = true from rfl, show (((1 : Nat) : Int) == 0) = false from rfl, show (((1 : Nat) : Int) == 1) = true from rfl]
      simp only [cond_true, cond_false, hown, Option.bind_some, e2, Vol_sm hs hy.lim_eq hs', bne_self_eq_false]
      rw [show decide (((s : Nat) : Int) < 0) = false from decide_eq_false (by omega), hmul hs2.2.2.1 hs2.2.2.2 (by omega) (by omega), wr_in (n := massOf h l * 1000) (by omega) (by omega), show decide (volS h.Sections (s : Int) * a < massOf h l * 1000) = false from decide_eq_false (by omega)]
      simp only [cond_false]
      by_cases c : 0 < s
      · obtain ⟨q1, q2, q3⟩ := hs2.2.1 c
        rw [show decide (((s : Nat) : Int) > 0) = true from decide_eq_true (by omega), show wr ((s : Int) - 1) = ((s - 1 : Nat) : Int) from by rw [wr_in (by have := hy.lim_eq; have := (lim_le h.Sections 1000).1; omega) (by have := hy.lim_eq; have := (lim_le h.Sections 1000).1; omega)]; omega]
        simp only [cond_true, Vol_sm hs hy.lim_eq (show s - 1 ≤ lim by omega), Option.bind_some, bne_self_eq_false, cond_false]
        rw [hmul q3 (by omega) (by omega) (by omega), show decide (volS h.Sections ((s - 1 : Nat) : Int) * a ≥ massOf h l * 1000) = false from decide_eq_false (by omega), show decide (volS h.Sections ((s - 1 : Nat) : Int) > volS h.Sections (s : Int)) = false from decide_eq_false (by omega)]
        rfl
      · rw [show decide (((s : Nat) : Int) > 0) = false from decide_eq_false (by omega)]
        rfl
  · rfl

theorem sumL_set : ∀ (l : List Int) (k : Nat) (hk : k < l.length) (n : Int), sumL (l.set k n) = sumL l + (n - l[k])
  | x :: l, 0, _, n => by simp [sumL]; omega
  | x :: l, k + 1, hk, n => by
    have := sumL_set l k (by simpa using hk) n
    simp only [List.set_cons_succ, sumL, this, List.getElem_cons_succ]; omega
theorem set?_nat {α : Type} {l : List α} {k : Nat} (h : k < l.length) (x : α) : set? l (k : Int) x = some (l.set k x) := by
  unfold set?
  rw [if_pos (by omega)]
  simp

theorem least_true {x : Tthalweglaw02_Small} {hold more : Int} (hk : SmK x) (h1 : byte hold) (h2 : byte more) : F_thalweglaw02_HullLeast (x, hold, more) = some true := by
  have hs := hullV_sm hk (m := 4) (by omega) (by omega)
  have eh : F_thalweglaw02_Small_hull (x, 4) = some (hullV x 4) := hull_eq x (m := 4) (by omega) (by omega)
  generalize hullV x 4 = h at hs eh
  have el := load_eq (x := x) hs
  have hl := loadV_sm hk hs
  generalize loadV x h h.Sections.length = l at el hl
  obtain ⟨a, b, ed, d1, d2, d3⟩ := density_eq hk
  have hone := hs.one
  have hlen := hl.len
  have hld := smL_ld hs hl
  have hown := own_eq hs.small
  have hnum := numbers_eq (l := l) (by omega)
  obtain ⟨lim, r, s, hy, ef⟩ := float_lies hs hl d1 d2 (by omega : b ≤ 1100)
  have hmb := more_bound hld
  have hlim := hy.lim_eq
  have hlim0 := (lim_le h.Sections 1000).1
  simp only [F_thalweglaw02_HullLeast, eh, Option.bind_some, el, ed, hown, hnum, ef, knownZ_eq]
  cases hc : decide ((s : Int) + moreOf h l > (lim : Int)) with
  | true =>
    simp only [outF, hc, cond_true]
    rfl
  | false =>
    have hc := of_decide_eq_false hc
    have hsl : s ≤ lim := by omega
    have hrs : r ≤ s := by
      rcases Nat.lt_or_ge s r with c | c
      · have p1 := hy.rlo s c
        have p2 := hy.shi hsl
        have p3 := need_dens hld (c := b) (d := a) (by omega) d2
        simp only at p1 p2
        omega
      · exact c
    have eo : outF h l lim r s = (⟨⟨r, s⟩, ⟨r + moreOf h l, s + moreOf h l⟩, if momOf h l < 0 then -1 else if momOf h l > 0 then 1 else 0⟩, 0) := by
      rw [outF, show decide ((s : Int) + moreOf h l > (lim : Int)) = false from decide_eq_false hc]; rfl
    have hz := more_zero hld
    simp only [eo, bne_self_eq_false, cond_false]
    rw [mass_loop hs hl, Option.bind_some]
    rw [checks hs hl _ _ d1 d2 (by omega) hy (by omega) hsl _ rfl rfl]
    simp only [Option.bind_some]
    rw [wr_in (n := (r : Int) + moreOf h l - r) (by omega) (by omega), wr_in (n := (s : Int) + moreOf h l - s) (by omega) (by omega), show (r : Int) + moreOf h l - r = moreOf h l by omega, show (s : Int) + moreOf h l - s = moreOf h l by omega]
    simp only [bne_self_eq_false, cond_false]
    rw [show decide ((r : Int) + moreOf h l < (r : Int)) = false from decide_eq_false (by omega)]
    simp only [cond_false]
    have hhead : (((if momOf h l < 0 then -1 else if momOf h l > 0 then 1 else 0 : Int) == 0) == ((r : Int) + moreOf h l == (r : Int))) = true := by
      by_cases c0 : momOf h l = 0
      · have : moreOf h l = 0 := hz.2 c0
        simp [c0, this]
      · have : moreOf h l ≠ 0 := fun e => c0 (hz.1 e)
        by_cases c1 : momOf h l < 0
        · simp [c1]; omega
        · simp [c1, show 0 < momOf h l by omega]; omega
    rw [hhead]
    simp only [Bool.not_true, cond_false]
    -- denser water
    have m1 := tmod_byte (m := 20) h2 (by omega)
    rw [wr_in (n := more) (by omega) (by omega), wr_in (n := a + more.tmod 20) (by omega) (by omega), wr_in (n := b + more.tmod 20) (by omega) (by omega)]
    obtain ⟨lim', r', s', hy', ef'⟩ := float_lies hs hl (a := a + more.tmod 20) (b := b + more.tmod 20) (by omega) (by omega) (by omega)
    obtain ⟨rfl, hr', hs'⟩ := lies_le hy hy' (need_dens hld (by show 0 < b; omega) (by show b ≤ b + more.tmod 20; omega)) (need_dens hld (by show 0 < a; omega) (by show a ≤ a + more.tmod 20; omega))
    have eo' : outF h l lim' r' s' = (⟨⟨r', s'⟩, ⟨r' + moreOf h l, s' + moreOf h l⟩, if momOf h l < 0 then -1 else if momOf h l > 0 then 1 else 0⟩, 0) := by
      rw [outF, show decide ((s' : Int) + moreOf h l > (lim' : Int)) = false from decide_eq_false (by omega)]; rfl
    simp only [ef', eo', Option.bind_some, bne_self_eq_false, cond_false]
    rw [show decide (((r' : Nat) : Int) > (r : Int)) = false from decide_eq_false (by omega), show decide (((s' : Nat) : Int) > (s : Int)) = false from decide_eq_false (by omega), show decide ((s' : Int) + moreOf h l > (s : Int) + moreOf h l) = false from decide_eq_false (by omega)]
    simp only [cond_false]
    -- a lot more
    have hn : nz? ((l.length : Int)) = some () := nz_of (by omega)
    have hkk := tmod_byte (m := (l.length : Int)) h1 (by omega)
    obtain ⟨k, ek⟩ := Int.eq_ofNat_of_zero_le hkk.1
    have hk1 : k < l.length := by omega
    have hk2 : k < h.Sections.length := by omega
    obtain ⟨ho, hb⟩ := hold1_eq (hs.sec _ (List.getElem_mem hk2))
    have hi : idx? h.Sections[k].Holds 0 = some (hold1 h.Sections[k]) := by rw [ho]; rfl
    rw [wr_in (n := hold) (by omega) (by omega), ek]
    simp only [hn, Option.bind_some, idx?_nat hk1, idx?_nat hk2, hi]
    by_cases c : l[k] < (hold1 h.Sections[k]).Lots
    · have hf := hl.fit k hk1 hk2
      rw [show decide (l[k] < (hold1 h.Sections[k]).Lots) = true from decide_eq_true c, wr_in (n := l[k] + 1) (by omega) (by omega), set?_nat hk1]
      have hl' : SmL h (l.set k (l[k] + 1)) := by
        refine ⟨by simp [hlen], fun i p q => ?_⟩
        rw [List.getElem_set]
        split
        · next e => subst e; omega
        · exact hl.fit i (by simpa using p) q
      have hld' := smL_ld hs hl'
      have hnum' := numbers_eq (l := l.set k (l[k] + 1)) (by simp; omega)
      obtain ⟨lim2, r2, s2, hy2, ef2⟩ := float_lies hs hl' d1 d2 (by omega : b ≤ 1100)
      have hmass : massOf h l ≤ massOf h (l.set k (l[k] + 1)) := by
        unfold massOf
        rw [sumL_set l k hk1, Int.add_mul]
        have : 0 ≤ (l[k] + 1 - l[k]) * h.Lot := Int.mul_nonneg (by omega) (by have := hs.lot; omega)
        omega
      obtain ⟨_, hr2, hs2⟩ := lies_le hy2 hy (need_mass (by show 0 < b; omega) hmass) (need_mass (by show 0 < a; omega) hmass)
      simp only [cond_true, Option.bind_some, hnum', ef2]
      cases hc2 : decide ((s2 : Int) + moreOf h (l.set k (l[k] + 1)) > (lim2 : Int)) with
      | true =>
        simp only [outF, hc2, cond_true]
        rfl
      | false =>
        simp only [outF, hc2, cond_false]
        rw [show decide (((r2 : Nat) : Int) < (r : Int)) = false from decide_eq_false (by omega), show decide (((s2 : Nat) : Int) < (s : Int)) = false from decide_eq_false (by omega)]
        rfl
    · rw [show decide (l[k] < (hold1 h.Sections[k]).Lots) = false from decide_eq_false c]
      rfl
end Go.Ev
/- The law HullLeast, by what is known of its arguments. -/
set_option linter.unusedVariables false
namespace Go.Ev
theorem byte_of {n : Int} (h : kIu8 n) : byte n := h
theorem small_of {x : Tthalweglaw02_Small} (h : kTthalweglaw02_Small x) : SmK x := by
  obtain ⟨h1, h2, h3, h4⟩ := h
  exact ⟨h1, fun v hv => by obtain ⟨a, b, c, d, e⟩ := h2.2 v hv; exact ⟨a, b, c, d, e⟩, h3.1, h3.2.1, h3.2.2.1, h3.2.2.2, h4.1, h4.2⟩
theorem least_law {x : Tthalweglaw02_Small} {a b : Int} (h1 : kTthalweglaw02_Small x) (h2 : kIu8 a) (h3 : kIu8 b) : F_thalweglaw02_HullLeast (x, a, b) = some true := least_true (small_of h1) h2 h3
end Go.Ev
