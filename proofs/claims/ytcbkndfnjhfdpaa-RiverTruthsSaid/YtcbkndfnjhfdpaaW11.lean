/- A part of the proof of RiverTruths. -/
import Derived.Test.YtcbkndfnjhfdpaaProg
import Derived.Test.YtcbkndfnjhfdpaaW10
/- What the arguments of the law are. -/
set_option linter.unusedVariables false
set_option linter.unusedSimpArgs false
namespace Go.Ev
open Go.Proofs
set_option maxRecDepth 100000
def kIu8 (i : Int) : Prop := IntKind.u8.min ≤ i ∧ i ≤ IntKind.u8.max
theorem typ_Iu8_5 {n : Nat} {vs : List V} (h : Typ Try.prog (n + 1) 5 vs) : ∃ x : Int, vs = [(V.v (.int .u8 (x)))] ∧ kIu8 (x) := by
  simp only [Typ, Try.underlying5] at h
  obtain ⟨i, rfl, hw⟩ := h
  refine ⟨i, rfl, ?_⟩
  simp only [Lit.wf, Bool.and_eq_true, decide_eq_true_eq] at hw
  exact hw
def kLIu8 (l : List Int) : Prop := l.length ≤ 140737488355328 ∧ ∀ x ∈ l, kIu8 (x)
theorem typ_LIu8_47 {n : Nat} {vs : List V} (h : Typ Try.prog (n + 2) 47 vs) : ∃ x : List Int, vs = [(V.sl (recs (eI .u8) (x)) (x).length)] ∧ kLIu8 (x) := by
  unfold Typ at h
  simp only [Try.underlying47] at h
  obtain ⟨ls, rfl, h1, h2⟩ := h
  obtain ⟨l, h3, h4, h5⟩ := typ_list (enc := (eI .u8)) (fun vs hv => typ_Iu8_5 (n := n) hv) ls h1
  refine ⟨l, by rw [h3, h4], ?_, h5⟩
  have hb : Try.prog.bytesOf 5 = 1 := by kernel_rfl
  rw [hb, h4] at h2
  have : reachBytes = 140737488351232 := rfl
  omega
def kTthalweglaw01_Truth (x : Tthalweglaw01_Truth) : Prop := kLIu8 (x.Base) ∧ kLIu8 (x.Side) ∧ kLIu8 (x.Bed) ∧ kLIu8 (x.Grow) ∧ kIu8 (x.Snow)
theorem typ_Tthalweglaw01_Truth_49 {n : Nat} {vs : List V} (h : Typ Try.prog (n + 3) 49 vs) : ∃ x : Tthalweglaw01_Truth, vs = eTthalweglaw01_Truth x ∧ kTthalweglaw01_Truth x := by
  unfold Typ at h
  simp only [Try.underlying49] at h
  obtain ⟨ls, rfl, h⟩ := h
  obtain ⟨v0, v1, v2, v3, v4, rfl, h0, h1, h2, h3, h4⟩ := all2_5 h
  obtain ⟨x0, rfl, k0⟩ := typ_LIu8_47 (n := n + 0) h0
  obtain ⟨x1, rfl, k1⟩ := typ_LIu8_47 (n := n + 0) h1
  obtain ⟨x2, rfl, k2⟩ := typ_LIu8_47 (n := n + 0) h2
  obtain ⟨x3, rfl, k3⟩ := typ_LIu8_47 (n := n + 0) h3
  obtain ⟨x4, rfl, k4⟩ := typ_Iu8_5 (n := n + 1) h4
  exact ⟨⟨x0, x1, x2, x3, x4⟩, rfl, k0, k1, k2, k3, k4⟩
def kTPass (x : TPass) : Prop := kIi64 (x.Place) ∧ kTBounds (x.Hours)
theorem typ_TPass_58 {n : Nat} {vs : List V} (h : Typ Try.prog (n + 3) 58 vs) : ∃ x : TPass, vs = eTPass x ∧ kTPass x := by
  unfold Typ at h
  simp only [Try.underlying58] at h
  obtain ⟨ls, rfl, h⟩ := h
  obtain ⟨v0, v1, rfl, h0, h1⟩ := all2_2 h
  obtain ⟨x0, rfl, k0⟩ := typ_Ii64_3 (n := n + 1) h0
  obtain ⟨x1, rfl, k1⟩ := typ_TBounds_42 (n := n + 0) h1
  exact ⟨⟨x0, x1⟩, rfl, k0, k1⟩
def kLTPass (l : List TPass) : Prop := l.length ≤ 140737488355328 ∧ ∀ x ∈ l, kTPass (x)
theorem typ_LTPass_50 {n : Nat} {vs : List V} (h : Typ Try.prog (n + 4) 50 vs) : ∃ x : List TPass, vs = [(V.sl (recs eTPass (x)) (x).length)] ∧ kLTPass (x) := by
  unfold Typ at h
  simp only [Try.underlying50] at h
  obtain ⟨ls, rfl, h1, h2⟩ := h
  obtain ⟨l, h3, h4, h5⟩ := typ_list (enc := eTPass) (fun vs hv => typ_TPass_58 (n := n) hv) ls h1
  refine ⟨l, by rw [h3, h4], ?_, h5⟩
  have hb : Try.prog.bytesOf 58 = 24 := by kernel_rfl
  rw [hb, h4] at h2
  have : reachBytes = 140737488351232 := rfl
  omega
end Go.Ev
