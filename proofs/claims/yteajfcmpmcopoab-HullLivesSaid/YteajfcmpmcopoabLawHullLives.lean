/- The law HullLives returns true for every plates and least thickness: how many years they last, and the first plate that can fail first, or the error, are what the document says; no conditions. -/
import Derived.Test.YteajfcmpmcopoabRows
import Derived.Test.YteajfcmpmcopoabW3
set_option linter.unusedVariables false
namespace Go.Proofs.Yteajfcmpmcopoab.hullLives
open Go.Ev Go.RowKit Go.ChangeShapes
set_option maxRecDepth 100000
theorem own : ownKnob Try.prog.godebug = none := by kernel_rfl
theorem lifted (os : Os) (started : os.Started) (H : Type) (enc : TypeId × Value → H) :
    ReturnsInHanded {} Try.checked os 3 .any (Rows.hullLivesSpec.pre6 enc Try.prog Try.f3 Rows.hullLivesRow.domain false) (Rows.hullLivesSpec.post enc Try.prog Try.f3 false true false false) := by
  refine lifted_law (C := Try.checked) (k := 8) (tb := 4) (con := _) own started (by kernel_rfl) Try.func3
    (ChangeSpec.witness6 (enc := enc) (C := Try.checked) false ⟨#[], #[.slice none 0 0, .int .i64 0], []⟩ 8 (by kernel_rfl) (by kernel_rfl) (by kernel_rfl) (by kernel_rfl)) rfl ?_ rfl Try.underlying4 (by kernel_rfl) (by kernel_rfl) (by kernel_rfl) (has_law h_thalweglaw02_HullLives rfl) rfl (fun _ => rfl) ?_
  · intro ds hds
    match ds, hds with
    | [d0, d1], _ => rfl
  · intro vss h
    rw [Try.params3] at h
    obtain ⟨w0, w1, rfl, h0, h1⟩ := all2_2 h
    obtain ⟨x0, rfl, k0⟩ := typ_LTHullPlate_22 (n := 4) h0
    obtain ⟨x1, rfl, k1⟩ := typ_Ii64_3 (n := 7) h1
    exact ⟨(x0, x1), rfl, lives_law k0 k1⟩
theorem over : Rows.hullLivesRow.holds Try.pinned (OpenSpec.ofChange Rows.hullLivesSpec) :=
  OpenClaim.holds_of_wide 3 Try.f3 rfl rfl rfl rfl rfl rfl rfl ⟨rfl, rfl, rfl, rfl, rfl⟩ rfl rfl rfl rfl rfl (by kernel_rfl) Try.func3 (by kernel_rfl)
    (of_decide_eq_true (by kernel_rfl)) (by unfold Func.isWrapper; first | (rw [if_pos (by decide +kernel)]; kernel_rfl) | (rw [if_neg (by decide +kernel)]; exact ⟨rfl, rfl⟩))
    (fun os started H enc _ => lifted os started H enc)
theorem proved : Rows.HullLivesSaid := over
end Go.Proofs.Yteajfcmpmcopoab.hullLives
