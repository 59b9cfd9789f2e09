/- A part of the proof of HullFloats. -/
import Derived.Test.YteajfcmpmcopoabGreatProg
import Derived.Test.YteajfcmpmcopoabGreatW7
/- What the arguments of the law are. -/
set_option linter.unusedVariables false
set_option linter.unusedSimpArgs false
namespace Go.Ev
open Go.Proofs
set_option maxRecDepth 100000
theorem typ_list {α : Type} {enc : α → List V} {k : α → Prop} {n : Nat} {e : TypeId} (h : ∀ vs, Typ Tryz.prog n e vs → ∃ a, vs = enc a ∧ k a) : ∀ (ls : List (List V)), (∀ l ∈ ls, Typ Tryz.prog n e l) → ∃ l : List α, ls.flatten = recs enc l ∧ ls.length = l.length ∧ ∀ x ∈ l, k x
  | [], _ => ⟨[], rfl, rfl, fun x hx => by cases hx⟩
  | x :: ls, hl => by
    obtain ⟨a, rfl, ha⟩ := h x (hl x (by simp))
    obtain ⟨l, h1, h2, h3⟩ := typ_list h ls fun y hy => hl y (by simp [hy])
    refine ⟨a :: l, by simp [recs, List.flatten_cons, h1], by simp [h2], ?_⟩
    intro x hx
    cases hx with
    | head => exact ha
    | tail _ hx => exact h3 x hx
def kIi64 (i : Int) : Prop := IntKind.i64.min ≤ i ∧ i ≤ IntKind.i64.max
theorem typ_Ii64_3 {n : Nat} {vs : List V} (h : Typ Tryz.prog (n + 1) 3 vs) : ∃ x : Int, vs = [(V.v (.int .i64 (x)))] ∧ kIi64 (x) := by
  simp only [Typ, Tryz.underlying3] at h
  obtain ⟨i, rfl, hw⟩ := h
  refine ⟨i, rfl, ?_⟩
  simp only [Lit.wf, Bool.and_eq_true, decide_eq_true_eq] at hw
  exact hw
def kTHullRow (x : THullRow) : Prop := kIi64 (x.Draft) ∧ kIi64 (x.Volume)
theorem typ_THullRow_136 {n : Nat} {vs : List V} (h : Typ Tryz.prog (n + 2) 136 vs) : ∃ x : THullRow, vs = eTHullRow x ∧ kTHullRow x := by
  unfold Typ at h
  simp only [Tryz.underlying136] at h
  obtain ⟨ls, rfl, h⟩ := h
  obtain ⟨v0, v1, rfl, h0, h1⟩ := all2_2 h
  obtain ⟨x0, rfl, k0⟩ := typ_Ii64_3 (n := n + 0) h0
  obtain ⟨x1, rfl, k1⟩ := typ_Ii64_3 (n := n + 0) h1
  exact ⟨⟨x0, x1⟩, rfl, k0, k1⟩
def kLTHullRow (l : List THullRow) : Prop := l.length ≤ 140737488355328 ∧ ∀ x ∈ l, kTHullRow (x)
theorem typ_LTHullRow_110 {n : Nat} {vs : List V} (h : Typ Tryz.prog (n + 3) 110 vs) : ∃ x : List THullRow, vs = [(V.sl (recs eTHullRow (x)) (x).length)] ∧ kLTHullRow (x) := by
  unfold Typ at h
  simp only [Tryz.underlying110] at h
  obtain ⟨ls, rfl, h1, h2⟩ := h
  obtain ⟨l, h3, h4, h5⟩ := typ_list (enc := eTHullRow) (fun vs hv => typ_THullRow_136 (n := n) hv) ls h1
  refine ⟨l, by rw [h3, h4], ?_, h5⟩
  have hb : Tryz.prog.bytesOf 136 = 16 := by kernel_rfl
  rw [hb, h4] at h2
  have : reachBytes = 140737488351232 := rfl
  omega
def kTHullHold (x : THullHold) : Prop := kIi64 (x.At) ∧ kIi64 (x.Lots)
theorem typ_THullHold_75 {n : Nat} {vs : List V} (h : Typ Tryz.prog (n + 2) 75 vs) : ∃ x : THullHold, vs = eTHullHold x ∧ kTHullHold x := by
  unfold Typ at h
  simp only [Tryz.underlying75] at h
  obtain ⟨ls, rfl, h⟩ := h
  obtain ⟨v0, v1, rfl, h0, h1⟩ := all2_2 h
  obtain ⟨x0, rfl, k0⟩ := typ_Ii64_3 (n := n + 0) h0
  obtain ⟨x1, rfl, k1⟩ := typ_Ii64_3 (n := n + 0) h1
  exact ⟨⟨x0, x1⟩, rfl, k0, k1⟩
def kLTHullHold (l : List THullHold) : Prop := l.length ≤ 140737488355328 ∧ ∀ x ∈ l, kTHullHold (x)
theorem typ_LTHullHold_72 {n : Nat} {vs : List V} (h : Typ Tryz.prog (n + 3) 72 vs) : ∃ x : List THullHold, vs = [(V.sl (recs eTHullHold (x)) (x).length)] ∧ kLTHullHold (x) := by
  unfold Typ at h
  simp only [Tryz.underlying72] at h
  obtain ⟨ls, rfl, h1, h2⟩ := h
  obtain ⟨l, h3, h4, h5⟩ := typ_list (enc := eTHullHold) (fun vs hv => typ_THullHold_75 (n := n) hv) ls h1
  refine ⟨l, by rw [h3, h4], ?_, h5⟩
  have hb : Tryz.prog.bytesOf 75 = 16 := by kernel_rfl
  rw [hb, h4] at h2
  have : reachBytes = 140737488351232 := rfl
  omega
def kTHullSection (x : THullSection) : Prop := kIi64 (x.Length) ∧ kIi64 (x.Light) ∧ kIi64 (x.Trim) ∧ kLTHullRow (x.Curve) ∧ kLTHullHold (x.Holds)
theorem typ_THullSection_112 {n : Nat} {vs : List V} (h : Typ Tryz.prog (n + 4) 112 vs) : ∃ x : THullSection, vs = eTHullSection x ∧ kTHullSection x := by
  unfold Typ at h
  simp only [Tryz.underlying112] at h
  obtain ⟨ls, rfl, h⟩ := h
  obtain ⟨v0, v1, v2, v3, v4, rfl, h0, h1, h2, h3, h4⟩ := all2_5 h
  obtain ⟨x0, rfl, k0⟩ := typ_Ii64_3 (n := n + 2) h0
  obtain ⟨x1, rfl, k1⟩ := typ_Ii64_3 (n := n + 2) h1
  obtain ⟨x2, rfl, k2⟩ := typ_Ii64_3 (n := n + 2) h2
  obtain ⟨x3, rfl, k3⟩ := typ_LTHullRow_110 (n := n + 0) h3
  obtain ⟨x4, rfl, k4⟩ := typ_LTHullHold_72 (n := n + 0) h4
  exact ⟨⟨x0, x1, x2, x3, x4⟩, rfl, k0, k1, k2, k3, k4⟩
def kLTHullSection (l : List THullSection) : Prop := l.length ≤ 140737488355328 ∧ ∀ x ∈ l, kTHullSection (x)
theorem typ_LTHullSection_22 {n : Nat} {vs : List V} (h : Typ Tryz.prog (n + 5) 22 vs) : ∃ x : List THullSection, vs = [(V.sl (recs eTHullSection (x)) (x).length)] ∧ kLTHullSection (x) := by
  unfold Typ at h
  simp only [Tryz.underlying22] at h
  obtain ⟨ls, rfl, h1, h2⟩ := h
  obtain ⟨l, h3, h4, h5⟩ := typ_list (enc := eTHullSection) (fun vs hv => typ_THullSection_112 (n := n) hv) ls h1
  refine ⟨l, by rw [h3, h4], ?_, h5⟩
  have hb : Tryz.prog.bytesOf 112 = 72 := by kernel_rfl
  rw [hb, h4] at h2
  have : reachBytes = 140737488351232 := rfl
  omega
def kTHull (x : THull) : Prop := kIi64 (x.Lot) ∧ kLTHullSection (x.Sections)
theorem typ_THull_24 {n : Nat} {vs : List V} (h : Typ Tryz.prog (n + 6) 24 vs) : ∃ x : THull, vs = eTHull x ∧ kTHull x := by
  unfold Typ at h
  simp only [Tryz.underlying24] at h
  obtain ⟨ls, rfl, h⟩ := h
  obtain ⟨v0, v1, rfl, h0, h1⟩ := all2_2 h
  obtain ⟨x0, rfl, k0⟩ := typ_Ii64_3 (n := n + 4) h0
  obtain ⟨x1, rfl, k1⟩ := typ_LTHullSection_22 (n := n + 0) h1
  exact ⟨⟨x0, x1⟩, rfl, k0, k1⟩
def kLIi64 (l : List Int) : Prop := l.length ≤ 140737488355328 ∧ ∀ x ∈ l, kIi64 (x)
theorem typ_LIi64_25 {n : Nat} {vs : List V} (h : Typ Tryz.prog (n + 2) 25 vs) : ∃ x : List Int, vs = [(V.sl (recs (eI .i64) (x)) (x).length)] ∧ kLIi64 (x) := by
  unfold Typ at h
  simp only [Tryz.underlying25] at h
  obtain ⟨ls, rfl, h1, h2⟩ := h
  obtain ⟨l, h3, h4, h5⟩ := typ_list (enc := (eI .i64)) (fun vs hv => typ_Ii64_3 (n := n) hv) ls h1
  refine ⟨l, by rw [h3, h4], ?_, h5⟩
  have hb : Tryz.prog.bytesOf 3 = 8 := by kernel_rfl
  rw [hb, h4] at h2
  have : reachBytes = 140737488351232 := rfl
  omega
def kTBounds (x : TBounds) : Prop := kIi64 (x.Low) ∧ kIi64 (x.High)
theorem typ_TBounds_27 {n : Nat} {vs : List V} (h : Typ Tryz.prog (n + 2) 27 vs) : ∃ x : TBounds, vs = eTBounds x ∧ kTBounds x := by
  unfold Typ at h
  simp only [Tryz.underlying27] at h
  obtain ⟨ls, rfl, h⟩ := h
  obtain ⟨v0, v1, rfl, h0, h1⟩ := all2_2 h
  obtain ⟨x0, rfl, k0⟩ := typ_Ii64_3 (n := n + 0) h0
  obtain ⟨x1, rfl, k1⟩ := typ_Ii64_3 (n := n + 0) h1
  exact ⟨⟨x0, x1⟩, rfl, k0, k1⟩
def kTthalweglaw02_Loaded (x : Tthalweglaw02_Loaded) : Prop := kTHull (x.Hull) ∧ kLIi64 (x.Load) ∧ kTBounds (x.Density)
theorem typ_Tthalweglaw02_Loaded_29 {n : Nat} {vs : List V} (h : Typ Tryz.prog (n + 7) 29 vs) : ∃ x : Tthalweglaw02_Loaded, vs = eTthalweglaw02_Loaded x ∧ kTthalweglaw02_Loaded x := by
  unfold Typ at h
  simp only [Tryz.underlying29] at h
  obtain ⟨ls, rfl, h⟩ := h
  obtain ⟨v0, v1, v2, rfl, h0, h1, h2⟩ := all2_3 h
  obtain ⟨x0, rfl, k0⟩ := typ_THull_24 (n := n + 0) h0
  obtain ⟨x1, rfl, k1⟩ := typ_LIi64_25 (n := n + 4) h1
  obtain ⟨x2, rfl, k2⟩ := typ_TBounds_27 (n := n + 4) h2
  exact ⟨⟨x0, x1, x2⟩, rfl, k0, k1, k2⟩
end Go.Ev
/- Tests that are decided by other tests. -/
namespace Go.Ev
theorem eqT_ne {α : Type} [BEq α] {a b : α} (h : (a == b) = true) : (a != b) = false := by rw [bne, h]; rfl
theorem eqF_ne {α : Type} [BEq α] {a b : α} (h : (a == b) = false) : (a != b) = true := by rw [bne, h]; rfl
theorem neT_eq {α : Type} [BEq α] {a b : α} (h : (a != b) = true) : (a == b) = false := by
  unfold bne at h; cases e : (a == b) with
  | true => rw [e] at h; cases h
  | false => rfl
theorem neF_eq {α : Type} [BEq α] {a b : α} (h : (a != b) = false) : (a == b) = true := by
  unfold bne at h; cases e : (a == b) with
  | true => rfl
  | false => rw [e] at h; cases h
end Go.Ev
