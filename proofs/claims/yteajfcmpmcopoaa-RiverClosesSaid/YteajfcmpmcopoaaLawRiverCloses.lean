/- The law RiverCloses returns true for every river, forecast, closures, place and hour: whether the place is possibly and surely closed, or the error, is what the document says; no conditions. -/
import Derived.Test.YteajfcmpmcopoaaRows
import Derived.Test.YteajfcmpmcopoaaW4
set_option linter.unusedVariables false
namespace Go.Proofs.Yteajfcmpmcopoaa.riverCloses
open Go.Ev Go.RowKit Go.ChangeShapes
set_option maxRecDepth 100000
theorem own : ownKnob Try.prog.godebug = none := by kernel_rfl
theorem lifted (os : Os) (started : os.Started) (H : Type) (enc : TypeId × Value → H) :
    ReturnsInHanded {} Try.checked os 9 .any (Rows.riverClosesSpec.pre6 enc Try.prog Try.f9 Rows.riverClosesRow.domain false) (Rows.riverClosesSpec.post enc Try.prog Try.f9 false true false false) := by
  refine lifted_law (C := Try.checked) (k := 8) (tb := 4) (con := _) own started (by kernel_rfl) Try.func9
    (ChangeSpec.witness6 (enc := enc) (C := Try.checked) false ⟨#[], #[.agg #[.slice none 0 0, .slice none 0 0, .slice none 0 0], .slice none 0 0, .agg #[.int .i64 0, .int .i64 0]], []⟩ 8 (by kernel_rfl) (by kernel_rfl) (by kernel_rfl) (by kernel_rfl)) rfl ?_ rfl Try.underlying4 (by kernel_rfl) (by kernel_rfl) (by kernel_rfl) (has_law h_thalweglaw01_RiverCloses rfl) rfl (fun _ => rfl) ?_
  · intro ds hds
    match ds, hds with
    | [d0, d1, d2], _ => rfl
  · intro vss h
    rw [Try.params9] at h
    obtain ⟨w0, w1, w2, rfl, h0, h1, h2⟩ := all2_3 h
    obtain ⟨x0, rfl, k0⟩ := typ_Tthalweglaw01_Forecast_34 (n := 1) h0
    obtain ⟨x1, rfl, k1⟩ := typ_LTClosure_84 (n := 4) h1
    obtain ⟨x2, rfl, k2⟩ := typ_Tanon85_85 (n := 6) h2
    exact ⟨(x0, x1, x2), rfl, closes_law k0 k1 k2⟩
theorem over : Rows.riverClosesRow.holds Try.pinned (OpenSpec.ofChange Rows.riverClosesSpec) :=
  OpenClaim.holds_of_wide 9 Try.f9 rfl rfl rfl rfl rfl rfl rfl ⟨rfl, rfl, rfl, rfl, rfl⟩ rfl rfl rfl rfl rfl (by kernel_rfl) Try.func9 (by kernel_rfl)
    (of_decide_eq_true (by kernel_rfl)) (by unfold Func.isWrapper; first | (rw [if_pos (by decide +kernel)]; kernel_rfl) | (rw [if_neg (by decide +kernel)]; exact ⟨rfl, rfl⟩))
    (fun os started H enc _ => lifted os started H enc)
theorem proved : Rows.RiverClosesSaid := over
end Go.Proofs.Yteajfcmpmcopoaa.riverCloses
