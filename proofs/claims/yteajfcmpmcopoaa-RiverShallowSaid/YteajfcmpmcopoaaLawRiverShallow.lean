/- The law RiverShallow returns true for every forecast and way: the least depth on the way, and where and when it is as low as that, or the error, are what the document says; the way is not changed; no conditions. -/
import Derived.Test.YteajfcmpmcopoaaRows
import Derived.Test.YteajfcmpmcopoaaW9
set_option linter.unusedVariables false
namespace Go.Proofs.Yteajfcmpmcopoaa.riverShallow
open Go.Ev Go.RowKit Go.ChangeShapes
set_option maxRecDepth 100000
theorem own : ownKnob Try.prog.godebug = none := by kernel_rfl
theorem lifted (os : Os) (started : os.Started) (H : Type) (enc : TypeId × Value → H) :
    ReturnsInHanded {} Try.checked os 8 .any (Rows.riverShallowSpec.pre6 enc Try.prog Try.f8 Rows.riverShallowRow.domain false) (Rows.riverShallowSpec.post enc Try.prog Try.f8 false true false false) := by
  refine lifted_law (C := Try.checked) (k := 8) (tb := 4) (con := _) own started (by kernel_rfl) Try.func8
    (ChangeSpec.witness6 (enc := enc) (C := Try.checked) false ⟨#[], #[.agg #[.slice none 0 0, .slice none 0 0, .slice none 0 0], .slice none 0 0], []⟩ 8 (by kernel_rfl) (by kernel_rfl) (by kernel_rfl) (by kernel_rfl)) rfl ?_ rfl Try.underlying4 (by kernel_rfl) (by kernel_rfl) (by kernel_rfl) (has_law h_thalweglaw01_RiverShallow rfl) rfl (fun _ => rfl) ?_
  · intro ds hds
    match ds, hds with
    | [d0, d1], _ => rfl
  · intro vss h
    rw [Try.params8] at h
    obtain ⟨w0, w1, rfl, h0, h1⟩ := all2_2 h
    obtain ⟨x0, rfl, k0⟩ := typ_Tthalweglaw01_Forecast_34 (n := 1) h0
    obtain ⟨x1, rfl, k1⟩ := typ_LTPass_75 (n := 4) h1
    exact ⟨(x0, x1), rfl, shallow_law k0 k1⟩
theorem over : Rows.riverShallowRow.holds Try.pinned (OpenSpec.ofChange Rows.riverShallowSpec) :=
  OpenClaim.holds_of_wide 8 Try.f8 rfl rfl rfl rfl rfl rfl rfl ⟨rfl, rfl, rfl, rfl, rfl⟩ rfl rfl rfl rfl rfl (by kernel_rfl) Try.func8 (by kernel_rfl)
    (of_decide_eq_true (by kernel_rfl)) (by unfold Func.isWrapper; first | (rw [if_pos (by decide +kernel)]; kernel_rfl) | (rw [if_neg (by decide +kernel)]; exact ⟨rfl, rfl⟩))
    (fun os started H enc _ => lifted os started H enc)
theorem proved : Rows.RiverShallowSaid := over
end Go.Proofs.Yteajfcmpmcopoaa.riverShallow
