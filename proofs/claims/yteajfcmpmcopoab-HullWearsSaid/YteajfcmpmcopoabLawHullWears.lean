/- The law HullWears returns true for every plates, least thickness and picks: whatever is true of plates, all of them last for some number of years within the bounds, both ends are reached, and a plate more raises neither end; no conditions. -/
import Derived.Test.YteajfcmpmcopoabRows
import Derived.Test.YteajfcmpmcopoabW5
set_option linter.unusedVariables false
namespace Go.Proofs.Yteajfcmpmcopoab.hullWears
open Go.Ev Go.RowKit Go.ChangeShapes
set_option maxRecDepth 100000
theorem own : ownKnob Try.prog.godebug = none := by kernel_rfl
theorem lifted (os : Os) (started : os.Started) (H : Type) (enc : TypeId × Value → H) :
    ReturnsInHanded {} Try.checked os 6 .any (Rows.hullWearsSpec.pre6 enc Try.prog Try.f6 Rows.hullWearsRow.domain false) (Rows.hullWearsSpec.post enc Try.prog Try.f6 false true false false) := by
  refine lifted_law (C := Try.checked) (k := 8) (tb := 4) (con := _) own started (by kernel_rfl) Try.func6
    (ChangeSpec.witness6 (enc := enc) (C := Try.checked) false ⟨#[], #[.slice none 0 0, .int .u8 0, .slice none 0 0], []⟩ 8 (by kernel_rfl) (by kernel_rfl) (by kernel_rfl) (by kernel_rfl)) rfl ?_ rfl Try.underlying4 (by kernel_rfl) (by kernel_rfl) (by kernel_rfl) (has_law h_thalweglaw02_HullWears rfl) rfl (fun _ => rfl) ?_
  · intro ds hds
    match ds, hds with
    | [d0, d1, d2], _ => rfl
  · intro vss h
    rw [Try.params6] at h
    obtain ⟨w0, w1, w2, rfl, h0, h1, h2⟩ := all2_3 h
    obtain ⟨x0, rfl, k0⟩ := typ_LTanon35_66 (n := 5) h0
    obtain ⟨x1, rfl, k1⟩ := typ_Iu8_5 (n := 7) h1
    obtain ⟨x2, rfl, k2⟩ := typ_LIu8_67 (n := 6) h2
    exact ⟨(x0, x1, x2), rfl, wears_law k0 k1 k2⟩
theorem over : Rows.hullWearsRow.holds Try.pinned (OpenSpec.ofChange Rows.hullWearsSpec) :=
  OpenClaim.holds_of_wide 6 Try.f6 rfl rfl rfl rfl rfl rfl rfl ⟨rfl, rfl, rfl, rfl, rfl⟩ rfl rfl rfl rfl rfl (by kernel_rfl) Try.func6 (by kernel_rfl)
    (of_decide_eq_true (by kernel_rfl)) (by unfold Func.isWrapper; first | (rw [if_pos (by decide +kernel)]; kernel_rfl) | (rw [if_neg (by decide +kernel)]; exact ⟨rfl, rfl⟩))
    (fun os started H enc _ => lifted os started H enc)
theorem proved : Rows.HullWearsSaid := over
end Go.Proofs.Yteajfcmpmcopoab.hullWears
