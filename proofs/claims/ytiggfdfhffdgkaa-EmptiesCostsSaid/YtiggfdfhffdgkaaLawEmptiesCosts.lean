/- Whether any net is valid, and the cost of any moves, or the errors, are what the document says, for nets and moves of at most the sizes that the statement names; larger ones are not looked at. -/
import Derived.Test.YtiggfdfhffdgkaaRows
import Derived.Test.YtiggfdfhffdgkaaW9
set_option linter.unusedVariables false
namespace Go.Proofs.Ytiggfdfhffdgkaa.emptiesCosts
open Go.Ev Go.RowKit Go.ChangeShapes
set_option maxRecDepth 100000
theorem own : ownKnob Try.prog.godebug = none := by kernel_rfl
theorem lifted (os : Os) (started : os.Started) (H : Type) (enc : TypeId × Value → H) :
    ReturnsInHanded {} Try.checked os 3 .any (Rows.emptiesCostsSpec.pre6 enc Try.prog Try.f3 Rows.emptiesCostsRow.domain false) (Rows.emptiesCostsSpec.post enc Try.prog Try.f3 false true false false) := by
  refine lifted_law (C := Try.checked) (k := 8) (tb := 4) (con := _) own started (by kernel_rfl) Try.func3
    (ChangeSpec.witness6 (enc := enc) (C := Try.checked) false ⟨#[], #[.agg #[.slice none 0 0, .slice none 0 0], .slice none 0 0], []⟩ 8 (by kernel_rfl) (by kernel_rfl) (by kernel_rfl) (by kernel_rfl)) rfl ?_ rfl Try.underlying4 (by kernel_rfl) (by kernel_rfl) (by kernel_rfl) (has_law h_thalweglaw06_EmptiesCosts rfl) rfl (fun _ => rfl) ?_
  · intro ds hds
    match ds, hds with
    | [d0, d1], _ => rfl
  · intro vss h
    rw [Try.params3] at h
    obtain ⟨w0, w1, rfl, h0, h1⟩ := all2_2 h
    obtain ⟨x0, rfl, k0⟩ := typ_TEmptyNet_25 (n := 4) h0
    obtain ⟨x1, rfl, k1⟩ := typ_LIi64_26 (n := 6) h1
    exact ⟨(x0, x1), rfl, costs_law k0 k1⟩
theorem over : Rows.emptiesCostsRow.holds Try.pinned (OpenSpec.ofChange Rows.emptiesCostsSpec) :=
  OpenClaim.holds_of_wide 3 Try.f3 rfl rfl rfl rfl rfl rfl rfl ⟨rfl, rfl, rfl, rfl, rfl⟩ rfl rfl rfl rfl rfl (by kernel_rfl) Try.func3 (by kernel_rfl)
    (of_decide_eq_true (by kernel_rfl)) (by unfold Func.isWrapper; first | (rw [if_pos (by decide +kernel)]; kernel_rfl) | (rw [if_neg (by decide +kernel)]; exact ⟨rfl, rfl⟩))
    (fun os started H enc _ => lifted os started H enc)
theorem proved : Rows.EmptiesCostsSaid := over
end Go.Proofs.Ytiggfdfhffdgkaa.emptiesCosts
