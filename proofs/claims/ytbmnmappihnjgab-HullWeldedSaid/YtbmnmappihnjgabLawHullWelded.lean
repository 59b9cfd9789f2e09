/- For every small hull and two numbers the law HullWelded returns true: a hull that is cut and welded again is the same hull, and its volume is the sum of its parts' volumes; no condition. -/
import Derived.Test.YtbmnmappihnjgabRows
import Derived.Test.YtbmnmappihnjgabW11
set_option linter.unusedVariables false
namespace Go.Proofs.Ytbmnmappihnjgab.hullWelded
open Go.Ev Go.RowKit Go.ChangeShapes
set_option maxRecDepth 100000
theorem own : ownKnob Try.prog.godebug = none := by kernel_rfl
theorem lifted (os : Os) (started : os.Started) (H : Type) (enc : TypeId × Value → H) :
    ReturnsInHanded {} Try.checked os 5 .any (Rows.hullWeldedSpec.pre6 enc Try.prog Try.f5 Rows.hullWeldedRow.domain false) (Rows.hullWeldedSpec.post enc Try.prog Try.f5 false true false false) := by
  refine lifted_law (C := Try.checked) (k := 8) (tb := 4) (con := _) own started (by kernel_rfl) Try.func5
    (ChangeSpec.witness6 (enc := enc) (C := Try.checked) false ⟨#[], #[.agg #[.int .u8 0, .slice none 0 0, .int .u8 0, .int .u8 0, .int .u8 0, .int .u8 0, .int .u8 0, .int .u8 0], .int .u8 0, .int .u8 0], []⟩ 8 (by kernel_rfl) (by kernel_rfl) (by kernel_rfl) (by kernel_rfl)) rfl ?_ rfl Try.underlying4 (by kernel_rfl) (by kernel_rfl) (by kernel_rfl) (has_law h_thalweglaw02_HullWelded rfl) rfl (fun _ => rfl) ?_
  · intro ds hds
    match ds, hds with
    | [d0, d1, d2], _ => rfl
  · intro vss h
    rw [Try.params5] at h
    obtain ⟨w0, w1, w2, rfl, h0, h1, h2⟩ := all2_3 h
    obtain ⟨x0, rfl, k0⟩ := typ_Tthalweglaw02_Small_38 (n := 4) h0
    obtain ⟨x1, rfl, k1⟩ := typ_Iu8_5 (n := 7) h1
    obtain ⟨x2, rfl, k2⟩ := typ_Iu8_5 (n := 7) h2
    exact ⟨(x0, x1, x2), rfl, welded_law k0 k1 k2⟩
theorem over : Rows.hullWeldedRow.holds Try.pinned (OpenSpec.ofChange Rows.hullWeldedSpec) :=
  OpenClaim.holds_of_wide 5 Try.f5 rfl rfl rfl rfl rfl rfl rfl ⟨rfl, rfl, rfl, rfl, rfl⟩ rfl rfl rfl rfl rfl (by kernel_rfl) Try.func5 (by kernel_rfl)
    (of_decide_eq_true (by kernel_rfl)) (by unfold Func.isWrapper; first | (rw [if_pos (by decide +kernel)]; kernel_rfl) | (rw [if_neg (by decide +kernel)]; exact ⟨rfl, rfl⟩))
    (fun os started H enc _ => lifted os started H enc)
theorem proved : Rows.HullWeldedSaid := over
end Go.Proofs.Ytbmnmappihnjgab.hullWelded
