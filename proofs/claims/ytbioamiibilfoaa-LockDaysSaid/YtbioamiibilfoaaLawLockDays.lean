/- LockDaysSaid -/
import Derived.Test.YtbioamiibilfoaaRows
import Derived.Test.YtbioamiibilfoaaW7
set_option linter.unusedVariables false
namespace Go.Proofs.Ytbioamiibilfoaa.lockDays
open Go.Ev Go.RowKit Go.ChangeShapes
set_option maxRecDepth 100000
theorem own : ownKnob Try.prog.godebug = none := by kernel_rfl
theorem lifted (os : Os) (started : os.Started) (H : Type) (enc : TypeId × Value → H) :
    ReturnsInHanded {} Try.checked os 3 .any (Rows.lockDaysSpec.pre6 enc Try.prog Try.f3 Rows.lockDaysRow.domain false) (Rows.lockDaysSpec.post enc Try.prog Try.f3 false true false false) := by
  refine lifted_law (C := Try.checked) (k := 8) (tb := 4) (con := _) own started (by kernel_rfl) Try.func3
    (ChangeSpec.witness6 (enc := enc) (C := Try.checked) false ⟨#[], #[.slice none 0 0, .slice none 0 0, .int .i64 0], []⟩ 8 (by kernel_rfl) (by kernel_rfl) (by kernel_rfl) (by kernel_rfl)) rfl ?_ rfl Try.underlying4 (by kernel_rfl) (by kernel_rfl) (by kernel_rfl) (has_law h_thalweglaw04_LockDays rfl) rfl (fun _ => rfl) ?_
  · intro ds hds
    match ds, hds with
    | [d0, d1, d2], _ => rfl
  · intro vss h
    rw [Try.params3] at h
    obtain ⟨w0, w1, w2, rfl, h0, h1, h2⟩ := all2_3 h
    obtain ⟨x0, rfl, k0⟩ := typ_LTLockReach_22 (n := 4) h0
    obtain ⟨x1, rfl, k1⟩ := typ_LTLockTraffic_23 (n := 4) h1
    obtain ⟨x2, rfl, k2⟩ := typ_Ii64_3 (n := 7) h2
    exact ⟨(x0, x1, x2), rfl, days_law k0 k1 k2⟩
theorem over : Rows.lockDaysRow.holds Try.pinned (OpenSpec.ofChange Rows.lockDaysSpec) :=
  OpenClaim.holds_of_wide 3 Try.f3 rfl rfl rfl rfl rfl rfl rfl ⟨rfl, rfl, rfl, rfl, rfl⟩ rfl rfl rfl rfl rfl (by kernel_rfl) Try.func3 (by kernel_rfl)
    (of_decide_eq_true (by kernel_rfl)) (by unfold Func.isWrapper; first | (rw [if_pos (by decide +kernel)]; kernel_rfl) | (rw [if_neg (by decide +kernel)]; exact ⟨rfl, rfl⟩))
    (fun os started H enc _ => lifted os started H enc)
theorem proved : Rows.LockDaysSaid := over
end Go.Proofs.Ytbioamiibilfoaa.lockDays
