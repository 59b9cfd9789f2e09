/- The law HullSafes returns true for every loaded hull and every passage: whether the hull surely, and possibly, can take the way, where and when this is shallowest, and by how many hours all must be later, or the errors, are what the document says, and the passage is not changed; no conditions. -/
import Derived.Test.YtghleangoiogiaaGreatRows
import Derived.Test.YtghleangoiogiaaGreatW14
set_option linter.unusedVariables false
namespace Go.Proofs.YtghleangoiogiaaGreat.hullSafes
open Go.Ev Go.RowKit Go.ChangeShapes
set_option maxRecDepth 100000
theorem own : ownKnob Tryz.prog.godebug = none := by kernel_rfl
theorem lifted (os : Os) (started : os.Started) (H : Type) (enc : TypeId × Value → H) :
    ReturnsInHanded {} Tryz.checked os 3 .any (Rows.hullSafesSpec.pre6 enc Tryz.prog Tryz.f3 Rows.hullSafesRow.domain false) (Rows.hullSafesSpec.post enc Tryz.prog Tryz.f3 false true false false) := by
  refine lifted_law (C := Tryz.checked) (k := 8) (tb := 4) (con := _) own started (by kernel_rfl) Tryz.func3
    (ChangeSpec.witness6 (enc := enc) (C := Tryz.checked) false ⟨#[], #[.agg #[.int .i64 0, .slice none 0 0, .slice none 0 0, .int .i64 0, .int .i64 0], .agg #[.slice none 0 0, .slice none 0 0, .slice none 0 0, .slice none 0 0, .int .i64 0]], []⟩ 8 (by kernel_rfl) (by kernel_rfl) (by kernel_rfl) (by kernel_rfl)) rfl ?_ rfl Tryz.underlying4 (by kernel_rfl) (by kernel_rfl) (by kernel_rfl) (has_law h_thalweglaw02_HullSafes rfl) rfl (fun _ => rfl) ?_
  · intro ds hds
    match ds, hds with
    | [d0, d1], _ => rfl
  · intro vss h
    rw [Tryz.params3] at h
    obtain ⟨w0, w1, rfl, h0, h1⟩ := all2_2 h
    obtain ⟨x0, rfl, k0⟩ := typ_Tthalweglaw02_Loaded_29 (n := 1) h0
    obtain ⟨x1, rfl, k1⟩ := typ_TPassage_37 (n := 1) h1
    exact ⟨(x0, x1), rfl, safes_law k0 k1⟩
theorem over : Rows.hullSafesRow.holds Tryz.pinned (OpenSpec.ofChange Rows.hullSafesSpec) :=
  OpenClaim.holds_of_wide 3 Tryz.f3 rfl rfl rfl rfl rfl rfl rfl ⟨rfl, rfl, rfl, rfl, rfl⟩ rfl rfl rfl rfl rfl (by kernel_rfl) Tryz.func3 (by kernel_rfl)
    (of_decide_eq_true (by kernel_rfl)) (by unfold Func.isWrapper; first | (rw [if_pos (by decide +kernel)]; kernel_rfl) | (rw [if_neg (by decide +kernel)]; exact ⟨rfl, rfl⟩))
    (fun os started H enc _ => lifted os started H enc)
theorem proved : Rows.HullSafesSaid := over
end Go.Proofs.YtghleangoiogiaaGreat.hullSafes
