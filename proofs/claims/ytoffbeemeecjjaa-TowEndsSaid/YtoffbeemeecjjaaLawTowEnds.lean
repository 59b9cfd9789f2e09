/- The statement TowEnds of the chapter on tows holds for every input, as given. -/
import Derived.Test.YtoffbeemeecjjaaRows
import Derived.Test.YtoffbeemeecjjaaW6
set_option linter.unusedVariables false
namespace Go.Proofs.Ytoffbeemeecjjaa.towEnds
open Go.Ev Go.RowKit Go.ChangeShapes
set_option maxRecDepth 100000
theorem own : ownKnob Try.prog.godebug = none := by kernel_rfl
theorem lifted (os : Os) (started : os.Started) (H : Type) (enc : TypeId × Value → H) :
    ReturnsInHanded {} Try.checked os 7 .any (Rows.towEndsSpec.pre6 enc Try.prog Try.f7 Rows.towEndsRow.domain false) (Rows.towEndsSpec.post enc Try.prog Try.f7 false true false false) := by
  refine lifted_law (C := Try.checked) (k := 8) (tb := 4) (con := _) own started (by kernel_rfl) Try.func7
    (ChangeSpec.witness6 (enc := enc) (C := Try.checked) false ⟨#[], #[.agg #[.int .i64 0, .int .i64 0, .slice none 0 0, .int .i64 0, .int .i64 0], .int .u16 0], []⟩ 8 (by kernel_rfl) (by kernel_rfl) (by kernel_rfl) (by kernel_rfl)) rfl ?_ rfl Try.underlying4 (by kernel_rfl) (by kernel_rfl) (by kernel_rfl) (has_law h_thalweglaw03_TowEnds rfl) rfl (fun _ => rfl) ?_
  · intro ds hds
    match ds, hds with
    | [d0, d1], _ => rfl
  · intro vss h
    rw [Try.params7] at h
    obtain ⟨w0, w1, rfl, h0, h1⟩ := all2_2 h
    obtain ⟨x0, rfl, k0⟩ := typ_TVoyage_62 (n := 3) h0
    obtain ⟨x1, rfl, k1⟩ := typ_Iu16_63 (n := 7) h1
    exact ⟨(x0, x1), rfl, ends_law k0 k1⟩
theorem over : Rows.towEndsRow.holds Try.pinned (OpenSpec.ofChange Rows.towEndsSpec) :=
  OpenClaim.holds_of_wide 7 Try.f7 rfl rfl rfl rfl rfl rfl rfl ⟨rfl, rfl, rfl, rfl, rfl⟩ rfl rfl rfl rfl rfl (by kernel_rfl) Try.func7 (by kernel_rfl)
    (of_decide_eq_true (by kernel_rfl)) (by unfold Func.isWrapper; first | (rw [if_pos (by decide +kernel)]; kernel_rfl) | (rw [if_neg (by decide +kernel)]; exact ⟨rfl, rfl⟩))
    (fun os started H enc _ => lifted os started H enc)
theorem proved : Rows.TowEndsSaid := over
end Go.Proofs.Ytoffbeemeecjjaa.towEnds
