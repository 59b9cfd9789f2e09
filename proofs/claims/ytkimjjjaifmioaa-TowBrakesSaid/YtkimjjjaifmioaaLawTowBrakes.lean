/- The statement TowBrakes of the chapter on tows holds for every input, as given. -/
import Derived.Test.YtkimjjjaifmioaaRows
import Derived.Test.YtkimjjjaifmioaaW12
set_option linter.unusedVariables false
namespace Go.Proofs.Ytkimjjjaifmioaa.towBrakes
open Go.Ev Go.RowKit Go.ChangeShapes
set_option maxRecDepth 100000
theorem own : ownKnob Try.prog.godebug = none := by kernel_rfl
theorem lifted (os : Os) (started : os.Started) (H : Type) (enc : TypeId × Value → H) :
    ReturnsInHanded {} Try.checked os 8 .any (Rows.towBrakesSpec.pre6 enc Try.prog Try.f8 Rows.towBrakesRow.domain false) (Rows.towBrakesSpec.post enc Try.prog Try.f8 false true false false) := by
  refine lifted_law (C := Try.checked) (k := 8) (tb := 4) (con := _) own started (by kernel_rfl) Try.func8
    (ChangeSpec.witness6 (enc := enc) (C := Try.checked) false ⟨#[], #[.agg #[.int .u16 0, .int .u16 0, .int .u8 0, .int .u8 0, .int .u8 0, .int .u8 0, .int .u16 0]], []⟩ 8 (by kernel_rfl) (by kernel_rfl) (by kernel_rfl) (by kernel_rfl)) rfl ?_ rfl Try.underlying4 (by kernel_rfl) (by kernel_rfl) (by kernel_rfl) (has_law h_thalweglaw03_TowBrakes rfl) rfl (fun _ => rfl) ?_
  · intro ds hds
    match ds, hds with
    | [d0], _ => rfl
  · intro vss h
    rw [Try.params8] at h
    obtain ⟨w0, rfl, h0⟩ := all2_1 h
    obtain ⟨x0, rfl, k0⟩ := typ_Tthalweglaw03_Brakes_79 (n := 5) h0
    exact ⟨x0, rfl, brakes_law k0⟩
theorem over : Rows.towBrakesRow.holds Try.pinned (OpenSpec.ofChange Rows.towBrakesSpec) :=
  OpenClaim.holds_of_wide 8 Try.f8 rfl rfl rfl rfl rfl rfl rfl ⟨rfl, rfl, rfl, rfl, rfl⟩ rfl rfl rfl rfl rfl (by kernel_rfl) Try.func8 (by kernel_rfl)
    (of_decide_eq_true (by kernel_rfl)) (by unfold Func.isWrapper; first | (rw [if_pos (by decide +kernel)]; kernel_rfl) | (rw [if_neg (by decide +kernel)]; exact ⟨rfl, rfl⟩))
    (fun os started H enc _ => lifted os started H enc)
theorem proved : Rows.TowBrakesSaid := over
end Go.Proofs.Ytkimjjjaifmioaa.towBrakes
