/- The flow and the level of each reach in each hour of any forecast, or the errors, are what the document says, for forecasts of at most the sizes that the statement names; larger ones are not looked at. -/
import Derived.Test.YtcbkndfnjhfdpaaRows
import Derived.Test.YtcbkndfnjhfdpaaW10
set_option linter.unusedVariables false
namespace Go.Proofs.Ytcbkndfnjhfdpaa.riverFlows
open Go.Ev Go.RowKit Go.ChangeShapes
set_option maxRecDepth 100000
theorem own : ownKnob Try.prog.godebug = none := by kernel_rfl
theorem lifted (os : Os) (started : os.Started) (H : Type) (enc : TypeId × Value → H) :
    ReturnsInHanded {} Try.checked os 3 .any (Rows.riverFlowsSpec.pre6 enc Try.prog Try.f3 Rows.riverFlowsRow.domain false) (Rows.riverFlowsSpec.post enc Try.prog Try.f3 false true false false) := by
  refine lifted_law (C := Try.checked) (k := 8) (tb := 4) (con := _) own started (by kernel_rfl) Try.func3
    (ChangeSpec.witness6 (enc := enc) (C := Try.checked) false ⟨#[], #[.agg #[.slice none 0 0, .slice none 0 0, .slice none 0 0]], []⟩ 8 (by kernel_rfl) (by kernel_rfl) (by kernel_rfl) (by kernel_rfl)) rfl ?_ rfl Try.underlying4 (by kernel_rfl) (by kernel_rfl) (by kernel_rfl) (has_law h_thalweglaw01_RiverFlows rfl) rfl (fun _ => rfl) ?_
  · intro ds hds
    match ds, hds with
    | [d0], _ => rfl
  · intro vss h
    rw [Try.params3] at h
    obtain ⟨w0, rfl, h0⟩ := all2_1 h
    obtain ⟨x0, rfl, k0⟩ := typ_Tthalweglaw01_Forecast_28 (n := 1) h0
    exact ⟨x0, rfl, flows_law k0⟩
theorem over : Rows.riverFlowsRow.holds Try.pinned (OpenSpec.ofChange Rows.riverFlowsSpec) :=
  OpenClaim.holds_of_wide 3 Try.f3 rfl rfl rfl rfl rfl rfl rfl ⟨rfl, rfl, rfl, rfl, rfl⟩ rfl rfl rfl rfl rfl (by kernel_rfl) Try.func3 (by kernel_rfl)
    (of_decide_eq_true (by kernel_rfl)) (by unfold Func.isWrapper; first | (rw [if_pos (by decide +kernel)]; kernel_rfl) | (rw [if_neg (by decide +kernel)]; exact ⟨rfl, rfl⟩))
    (fun os started H enc _ => lifted os started H enc)
theorem proved : Rows.RiverFlowsSaid := over
end Go.Proofs.Ytcbkndfnjhfdpaa.riverFlows
