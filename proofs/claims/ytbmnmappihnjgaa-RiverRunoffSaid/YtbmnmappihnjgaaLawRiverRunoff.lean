/- For every land and every sky the law RiverRunoff returns true: what flows from the land, or the error, is what the document says; no condition. -/
import Derived.Test.YtbmnmappihnjgaaRows
import Derived.Test.YtbmnmappihnjgaaW6
set_option linter.unusedVariables false
namespace Go.Proofs.Ytbmnmappihnjgaa.riverRunoff
open Go.Ev Go.RowKit Go.ChangeShapes
set_option maxRecDepth 100000
theorem own : ownKnob Try.prog.godebug = none := by kernel_rfl
theorem lifted (os : Os) (started : os.Started) (H : Type) (enc : TypeId × Value → H) :
    ReturnsInHanded {} Try.checked os 4 .any (Rows.riverRunoffSpec.pre6 enc Try.prog Try.f4 Rows.riverRunoffRow.domain false) (Rows.riverRunoffSpec.post enc Try.prog Try.f4 false true false false) := by
  refine lifted_law (C := Try.checked) (k := 8) (tb := 4) (con := _) own started (by kernel_rfl) Try.func4
    (ChangeSpec.witness6 (enc := enc) (C := Try.checked) false ⟨#[], #[.agg #[.int .i64 0, .int .i64 0, .int .i64 0, .int .i64 0, .int .i64 0], .slice none 0 0], []⟩ 8 (by kernel_rfl) (by kernel_rfl) (by kernel_rfl) (by kernel_rfl)) rfl ?_ rfl Try.underlying4 (by kernel_rfl) (by kernel_rfl) (by kernel_rfl) h4 rfl (fun _ => rfl) ?_
  · intro ds hds
    match ds, hds with
    | [d0, d1], _ => rfl
  · intro vss h
    rw [Try.params4] at h
    obtain ⟨a, b, rfl, h1, h2⟩ := all2_2 h
    obtain ⟨c, rfl⟩ := typ_cat h1
    obtain ⟨l, rfl, hl⟩ := typ_skies h2
    exact ⟨(c, l), rfl, hl⟩
theorem over : Rows.riverRunoffRow.holds Try.pinned (OpenSpec.ofChange Rows.riverRunoffSpec) :=
  OpenClaim.holds_of_wide 4 Try.f4 rfl rfl rfl rfl rfl rfl rfl ⟨rfl, rfl, rfl, rfl, rfl⟩ rfl rfl rfl rfl rfl (by kernel_rfl) Try.func4 (by kernel_rfl)
    (of_decide_eq_true (by kernel_rfl)) (by unfold Func.isWrapper; first | (rw [if_pos (by decide +kernel)]; kernel_rfl) | (rw [if_neg (by decide +kernel)]; exact ⟨rfl, rfl⟩))
    (fun os started H enc _ => lifted os started H enc)
theorem proved : Rows.RiverRunoffSaid := over
end Go.Proofs.Ytbmnmappihnjgaa.riverRunoff
