/- The meetings that may happen and must not, or the error, are the reference's, and voyages and narrows read as they did, for traffic of at most the sizes that the law names; other traffic is not looked at. -/
import Derived.Test.YtignohgoodffbacRows
import Derived.Test.YtignohgoodffbacW11
set_option linter.unusedVariables false
namespace Go.Proofs.Ytignohgoodffbac.towConflicts
open Go.Ev Go.RowKit Go.ChangeShapes
set_option maxRecDepth 100000
theorem own : ownKnob Try.prog.godebug = none := by kernel_rfl
theorem lifted (os : Os) (started : os.Started) (H : Type) (enc : TypeId × Value → H) :
    ReturnsInHanded {} Try.checked os 3 .any (Rows.towConflictsSpec.pre6 enc Try.prog Try.f3 Rows.towConflictsRow.domain false) (Rows.towConflictsSpec.post enc Try.prog Try.f3 false true false false) := by
  refine lifted_law (C := Try.checked) (k := 8) (tb := 4) (con := _) own started (by kernel_rfl) Try.func3
    (ChangeSpec.witness6 (enc := enc) (C := Try.checked) false ⟨#[], #[.agg #[.slice none 0 0, .slice none 0 0]], []⟩ 8 (by kernel_rfl) (by kernel_rfl) (by kernel_rfl) (by kernel_rfl)) rfl ?_ rfl Try.underlying4 (by kernel_rfl) (by kernel_rfl) (by kernel_rfl) (has_law h_thalweglaw03_TowConflicts rfl) rfl (fun _ => rfl) ?_
  · intro ds hds
    match ds, hds with
    | [d0], _ => rfl
  · intro vss h
    rw [Try.params3] at h
    obtain ⟨w0, rfl, h0⟩ := all2_1 h
    obtain ⟨x0, rfl, k0⟩ := typ_Tthalweglaw03_Traffic_25 (n := 1) h0
    exact ⟨x0, rfl, conflicts_law k0⟩
theorem over : Rows.towConflictsRow.holds Try.pinned (OpenSpec.ofChange Rows.towConflictsSpec) :=
  OpenClaim.holds_of_wide 3 Try.f3 rfl rfl rfl rfl rfl rfl rfl ⟨rfl, rfl, rfl, rfl, rfl⟩ rfl rfl rfl rfl rfl (by kernel_rfl) Try.func3 (by kernel_rfl)
    (of_decide_eq_true (by kernel_rfl)) (by unfold Func.isWrapper; first | (rw [if_pos (by decide +kernel)]; kernel_rfl) | (rw [if_neg (by decide +kernel)]; exact ⟨rfl, rfl⟩))
    (fun os started H enc _ => lifted os started H enc)
theorem proved : Rows.TowConflictsSaid := over
end Go.Proofs.Ytignohgoodffbac.towConflicts
