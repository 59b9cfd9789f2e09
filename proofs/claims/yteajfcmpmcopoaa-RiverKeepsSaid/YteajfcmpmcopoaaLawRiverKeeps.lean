/- The law RiverKeeps returns true for every river, forecast and choice of reach and hours: the volume of a reach is that of the reach above, later by its delay, and what comes from the side, and volumes of spans that follow each other add up; no conditions. -/
import Derived.Test.YteajfcmpmcopoaaRows
import Derived.Test.YteajfcmpmcopoaaW4
set_option linter.unusedVariables false
namespace Go.Proofs.Yteajfcmpmcopoaa.riverKeeps
open Go.Ev Go.RowKit Go.ChangeShapes
set_option maxRecDepth 100000
theorem own : ownKnob Try.prog.godebug = none := by kernel_rfl
theorem lifted (os : Os) (started : os.Started) (H : Type) (enc : TypeId × Value → H) :
    ReturnsInHanded {} Try.checked os 13 .any (Rows.riverKeepsSpec.pre6 enc Try.prog Try.f13 Rows.riverKeepsRow.domain false) (Rows.riverKeepsSpec.post enc Try.prog Try.f13 false true false false) := by
  refine lifted_law (C := Try.checked) (k := 8) (tb := 4) (con := _) own started (by kernel_rfl) Try.func13
    (ChangeSpec.witness6 (enc := enc) (C := Try.checked) false ⟨#[], #[.agg #[.slice none 0 0, .slice none 0 0, .slice none 0 0], .agg #[.int .u16 0, .int .u16 0, .int .u16 0]], []⟩ 8 (by kernel_rfl) (by kernel_rfl) (by kernel_rfl) (by kernel_rfl)) rfl ?_ rfl Try.underlying4 (by kernel_rfl) (by kernel_rfl) (by kernel_rfl) (has_law h_thalweglaw01_RiverKeeps rfl) rfl (fun _ => rfl) ?_
  · intro ds hds
    match ds, hds with
    | [d0, d1], _ => rfl
  · intro vss h
    rw [Try.params13] at h
    obtain ⟨w0, w1, rfl, h0, h1⟩ := all2_2 h
    obtain ⟨x0, rfl, k0⟩ := typ_Tthalweglaw01_Forecast_34 (n := 1) h0
    obtain ⟨x1, rfl, k1⟩ := typ_Tanon106_106 (n := 6) h1
    exact ⟨(x0, x1), rfl, keeps_law k0 k1⟩
theorem over : Rows.riverKeepsRow.holds Try.pinned (OpenSpec.ofChange Rows.riverKeepsSpec) :=
  OpenClaim.holds_of_wide 13 Try.f13 rfl rfl rfl rfl rfl rfl rfl ⟨rfl, rfl, rfl, rfl, rfl⟩ rfl rfl rfl rfl rfl (by kernel_rfl) Try.func13 (by kernel_rfl)
    (of_decide_eq_true (by kernel_rfl)) (by unfold Func.isWrapper; first | (rw [if_pos (by decide +kernel)]; kernel_rfl) | (rw [if_neg (by decide +kernel)]; exact ⟨rfl, rfl⟩))
    (fun os started H enc _ => lifted os started H enc)
theorem proved : Rows.RiverKeepsSaid := over
end Go.Proofs.Yteajfcmpmcopoaa.riverKeeps
