/- In each truth the flows, levels, beds and depths lie in the bounds that are returned, for forecasts and ways of at most the sizes that the statement names; others are not looked at. -/
import Derived.Test.YtcbkndfnjhfdpaaRows
import Derived.Test.YtcbkndfnjhfdpaaW14
set_option linter.unusedVariables false
namespace Go.Proofs.Ytcbkndfnjhfdpaa.riverTruths
open Go.Ev Go.RowKit Go.ChangeShapes
set_option maxRecDepth 100000
theorem own : ownKnob Try.prog.godebug = none := by kernel_rfl
theorem lifted (os : Os) (started : os.Started) (H : Type) (enc : TypeId × Value → H) :
    ReturnsInHanded {} Try.checked os 4 .any (Rows.riverTruthsSpec.pre6 enc Try.prog Try.f4 Rows.riverTruthsRow.domain false) (Rows.riverTruthsSpec.post enc Try.prog Try.f4 false true false false) := by
  refine lifted_law (C := Try.checked) (k := 8) (tb := 4) (con := _) own started (by kernel_rfl) Try.func4
    (ChangeSpec.witness6 (enc := enc) (C := Try.checked) false ⟨#[], #[.agg #[.slice none 0 0, .slice none 0 0, .slice none 0 0], .agg #[.slice none 0 0, .slice none 0 0, .slice none 0 0, .slice none 0 0, .int .u8 0], .slice none 0 0], []⟩ 8 (by kernel_rfl) (by kernel_rfl) (by kernel_rfl) (by kernel_rfl)) rfl ?_ rfl Try.underlying4 (by kernel_rfl) (by kernel_rfl) (by kernel_rfl) (has_law h_thalweglaw01_RiverTruths rfl) rfl (fun _ => rfl) ?_
  · intro ds hds
    match ds, hds with
    | [d0, d1, d2], _ => rfl
  · intro vss h
    rw [Try.params4] at h
    obtain ⟨w0, w1, w2, rfl, h0, h1, h2⟩ := all2_3 h
    obtain ⟨x0, rfl, k0⟩ := typ_Tthalweglaw01_Forecast_28 (n := 1) h0
    obtain ⟨x1, rfl, k1⟩ := typ_Tthalweglaw01_Truth_49 (n := 5) h1
    obtain ⟨x2, rfl, k2⟩ := typ_LTPass_50 (n := 4) h2
    exact ⟨(x0, x1, x2), rfl, truths_law k0 k1 k2⟩
theorem over : Rows.riverTruthsRow.holds Try.pinned (OpenSpec.ofChange Rows.riverTruthsSpec) :=
  OpenClaim.holds_of_wide 4 Try.f4 rfl rfl rfl rfl rfl rfl rfl ⟨rfl, rfl, rfl, rfl, rfl⟩ rfl rfl rfl rfl rfl (by kernel_rfl) Try.func4 (by kernel_rfl)
    (of_decide_eq_true (by kernel_rfl)) (by unfold Func.isWrapper; first | (rw [if_pos (by decide +kernel)]; kernel_rfl) | (rw [if_neg (by decide +kernel)]; exact ⟨rfl, rfl⟩))
    (fun os started H enc _ => lifted os started H enc)
theorem proved : Rows.RiverTruthsSaid := over
end Go.Proofs.Ytcbkndfnjhfdpaa.riverTruths
