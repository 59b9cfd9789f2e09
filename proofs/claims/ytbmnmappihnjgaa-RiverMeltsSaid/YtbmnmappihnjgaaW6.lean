/- A part of the proof of RiverMelts. -/
import Derived.Test.YtbmnmappihnjgaaW5
/- The truth that a law is told: a value of its type. -/
set_option linter.unusedVariables false
set_option linter.unusedSimpArgs false
namespace Go.Ev
open Go.Proofs
set_option maxRecDepth 100000

theorem typ_u8 {n : Nat} {vs : List V} (h : Typ Try.prog (n + 1) 5 vs) : ∃ i, vs = [.v (.int .u8 i)] ∧ 0 ≤ i ∧ i ≤ 255 := by
  simp only [Typ, Try.underlying5] at h
  obtain ⟨i, rfl, hw⟩ := h
  refine ⟨i, rfl, ?_⟩
  simp only [Lit.wf, Bool.and_eq_true, decide_eq_true_eq] at hw
  have e1 : IntKind.u8.min = 0 := by decide
  have e2 : IntKind.u8.max = 255 := by decide
  omega

theorem bytes_all {n : Nat} : ∀ (ls : List (List V)), (∀ l ∈ ls, Typ Try.prog (n + 1) 5 l) → ∃ l : List Int, ls.flatten = bytesL l ∧ ls.length = l.length ∧ ∀ x ∈ l, 0 ≤ x ∧ x ≤ 255
  | [], _ => ⟨[], rfl, rfl, by simp⟩
  | x :: ls, hl => by
    obtain ⟨i, rfl, hi⟩ := typ_u8 (hl x (by simp))
    obtain ⟨l, h1, h2, h3⟩ := bytes_all ls fun y hy => hl y (by simp [hy])
    refine ⟨i :: l, by simp [bytesL, List.flatten_cons] at h1 ⊢; exact h1, by simp [h2], ?_⟩
    intro y hy
    rcases List.mem_cons.1 hy with rfl | h
    · exact hi
    · exact h3 y h

theorem typ_bytes {n : Nat} {vs : List V} (h : Typ Try.prog (n + 2) 94 vs) : ∃ l : List Int, vs = [.sl (bytesL l) l.length] ∧ l.length ≤ 140737488355328 ∧ ∀ x ∈ l, 0 ≤ x ∧ x ≤ 255 := by
  unfold Typ at h
  simp only [Try.underlying94] at h
  obtain ⟨ls, rfl, h1, h2⟩ := h
  obtain ⟨l, h3, h4, h5⟩ := bytes_all ls h1
  refine ⟨l, by rw [h3, h4], ?_, h5⟩
  have hb : Try.prog.bytesOf 5 = 1 := by kernel_rfl
  rw [hb, h4] at h2
  have : reachBytes = 140737488351232 := rfl
  omega

theorem typ_tru {n : Nat} {vs : List V} (h : Typ Try.prog (n + 3) 96 vs) : ∃ x, vs = eTru x ∧ TruOk x := by
  unfold Typ at h
  simp only [Try.underlying96] at h
  obtain ⟨ls, rfl, h⟩ := h
  obtain ⟨a, b, c, d, e, rfl, h1, h2, h3, h4, h5⟩ := all2_5 h
  obtain ⟨la, rfl, n1, w1⟩ := typ_bytes h1
  obtain ⟨lb, rfl, n2, w2⟩ := typ_bytes h2
  obtain ⟨lc, rfl, n3, w3⟩ := typ_bytes h3
  obtain ⟨ld, rfl, n4, w4⟩ := typ_bytes h4
  obtain ⟨i, rfl, hi⟩ := typ_u8 h5
  exact ⟨⟨la, lb, lc, ld, i⟩, rfl, ⟨w1, w2, hi, n1, n2⟩⟩
end Go.Ev
