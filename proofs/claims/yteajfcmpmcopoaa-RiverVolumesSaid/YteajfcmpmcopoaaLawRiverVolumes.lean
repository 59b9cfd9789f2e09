/- The law RiverVolumes returns true for every river, forecast, reach and hours: how much water flows through a reach is what the document says; no conditions. -/
import Derived.Test.YteajfcmpmcopoaaRows
import Derived.Test.YteajfcmpmcopoaaW3
set_option linter.unusedVariables false
namespace Go.Proofs.Yteajfcmpmcopoaa.riverVolumes
open Go.Ev Go.RowKit Go.ChangeShapes
set_option maxRecDepth 100000
theorem own : ownKnob Try.prog.godebug = none := by kernel_rfl
theorem lifted (os : Os) (started : os.Started) (H : Type) (enc : TypeId × Value → H) :
    ReturnsInHanded {} Try.checked os 6 .any (Rows.riverVolumesSpec.pre6 enc Try.prog Try.f6 Rows.riverVolumesRow.domain false) (Rows.riverVolumesSpec.post enc Try.prog Try.f6 false true false false) := by
  refine lifted_law (C := Try.checked) (k := 8) (tb := 4) (con := _) own started (by kernel_rfl) Try.func6
    (ChangeSpec.witness6 (enc := enc) (C := Try.checked) false ⟨#[], #[.agg #[.slice none 0 0, .slice none 0 0, .slice none 0 0], .agg #[.int .i64 0, .int .i64 0, .int .i64 0]], []⟩ 8 (by kernel_rfl) (by kernel_rfl) (by kernel_rfl) (by kernel_rfl)) rfl ?_ rfl Try.underlying4 (by kernel_rfl) (by kernel_rfl) (by kernel_rfl) (has_law h_thalweglaw01_RiverVolumes rfl) rfl (fun _ => rfl) ?_
  · intro ds hds
    match ds, hds with
    | [d0, d1], _ => rfl
  · intro vss h
    rw [Try.params6] at h
    obtain ⟨w0, w1, rfl, h0, h1⟩ := all2_2 h
    obtain ⟨x0, rfl, k0⟩ := typ_Tthalweglaw01_Forecast_34 (n := 1) h0
    obtain ⟨x1, rfl, k1⟩ := typ_Tanon65_65 (n := 6) h1
    exact ⟨(x0, x1), rfl, volumes_law k0 k1⟩
theorem over : Rows.riverVolumesRow.holds Try.pinned (OpenSpec.ofChange Rows.riverVolumesSpec) :=
  OpenClaim.holds_of_wide 6 Try.f6 rfl rfl rfl rfl rfl rfl rfl ⟨rfl, rfl, rfl, rfl, rfl⟩ rfl rfl rfl rfl rfl (by kernel_rfl) Try.func6 (by kernel_rfl)
    (of_decide_eq_true (by kernel_rfl)) (by unfold Func.isWrapper; first | (rw [if_pos (by decide +kernel)]; kernel_rfl) | (rw [if_neg (by decide +kernel)]; exact ⟨rfl, rfl⟩))
    (fun os started H enc _ => lifted os started H enc)
theorem proved : Rows.RiverVolumesSaid := over
end Go.Proofs.Yteajfcmpmcopoaa.riverVolumes
