/- The statement TowThrough of the chapter on tows holds for every input, as given. -/
import Derived.Test.YtkimjjjaifmioaaRows
import Derived.Test.YtkimjjjaifmioaaW11
set_option linter.unusedVariables false
namespace Go.Proofs.Ytkimjjjaifmioaa.towThrough
open Go.Ev Go.RowKit Go.ChangeShapes
set_option maxRecDepth 100000
theorem own : ownKnob Try.prog.godebug = none := by kernel_rfl
theorem lifted (os : Os) (started : os.Started) (H : Type) (enc : TypeId × Value → H) :
    ReturnsInHanded {} Try.checked os 6 .any (Rows.towThroughSpec.pre6 enc Try.prog Try.f6 Rows.towThroughRow.domain false) (Rows.towThroughSpec.post enc Try.prog Try.f6 false true false false) := by
  refine lifted_law (C := Try.checked) (k := 8) (tb := 4) (con := _) own started (by kernel_rfl) Try.func6
    (ChangeSpec.witness6 (enc := enc) (C := Try.checked) false ⟨#[], #[.agg #[.int .i64 0, .int .i64 0, .slice none 0 0, .int .i64 0, .int .i64 0], .agg #[.int .i64 0, .int .i64 0, .slice none 0 0, .int .i64 0, .int .i64 0], .agg #[.int .i64 0, .int .i64 0, .int .i64 0, .bool false]], []⟩ 8 (by kernel_rfl) (by kernel_rfl) (by kernel_rfl) (by kernel_rfl)) rfl ?_ rfl Try.underlying4 (by kernel_rfl) (by kernel_rfl) (by kernel_rfl) (has_law h_thalweglaw03_TowThrough rfl) rfl (fun _ => rfl) ?_
  · intro ds hds
    match ds, hds with
    | [d0, d1, d2], _ => rfl
  · intro vss h
    rw [Try.params6] at h
    obtain ⟨w0, w1, w2, rfl, h0, h1, h2⟩ := all2_3 h
    obtain ⟨x0, rfl, k0⟩ := typ_TVoyage_50 (n := 3) h0
    obtain ⟨x1, rfl, k1⟩ := typ_TVoyage_50 (n := 3) h1
    obtain ⟨x2, rfl, k2⟩ := typ_TNarrow_60 (n := 6) h2
    exact ⟨(x0, x1, x2), rfl, through_law k0 k1 k2⟩
theorem over : Rows.towThroughRow.holds Try.pinned (OpenSpec.ofChange Rows.towThroughSpec) :=
  OpenClaim.holds_of_wide 6 Try.f6 rfl rfl rfl rfl rfl rfl rfl ⟨rfl, rfl, rfl, rfl, rfl⟩ rfl rfl rfl rfl rfl (by kernel_rfl) Try.func6 (by kernel_rfl)
    (of_decide_eq_true (by kernel_rfl)) (by unfold Func.isWrapper; first | (rw [if_pos (by decide +kernel)]; kernel_rfl) | (rw [if_neg (by decide +kernel)]; exact ⟨rfl, rfl⟩))
    (fun os started H enc _ => lifted os started H enc)
theorem proved : Rows.TowThroughSaid := over
end Go.Proofs.Ytkimjjjaifmioaa.towThrough
