/- For every land, every sky and every truth within them the law RiverMelts returns true: what melts and what runs off lies in the forecast, and a later look that knows more tells no less; no condition. -/
import Derived.Test.YtbmnmappihnjgaaRows
import Derived.Test.YtbmnmappihnjgaaW6
set_option linter.unusedVariables false
namespace Go.Proofs.Ytbmnmappihnjgaa.riverMelts
open Go.Ev Go.RowKit Go.ChangeShapes
set_option maxRecDepth 100000
theorem own : ownKnob Try.prog.godebug = none := by kernel_rfl
theorem lifted (os : Os) (started : os.Started) (H : Type) (enc : TypeId × Value → H) :
    ReturnsInHanded {} Try.checked os 14 .any (Rows.riverMeltsSpec.pre6 enc Try.prog Try.f14 Rows.riverMeltsRow.domain false) (Rows.riverMeltsSpec.post enc Try.prog Try.f14 false true false false) := by
  refine lifted_law (C := Try.checked) (k := 8) (tb := 4) (con := _) own started (by kernel_rfl) Try.func14
    (ChangeSpec.witness6 (enc := enc) (C := Try.checked) false ⟨#[], #[.agg #[.int .i64 0, .int .i64 0, .int .i64 0, .int .i64 0, .int .i64 0], .slice none 0 0, .agg #[.slice none 0 0, .slice none 0 0, .slice none 0 0, .slice none 0 0, .int .u8 0]], []⟩ 8 (by kernel_rfl) (by kernel_rfl) (by kernel_rfl) (by kernel_rfl)) rfl ?_ rfl Try.underlying4 (by kernel_rfl) (by kernel_rfl) (by kernel_rfl) h14 rfl (fun _ => rfl) ?_
  · intro ds hds
    match ds, hds with
    | [d0, d1, d2], _ => rfl
  · intro vss h
    rw [Try.params14] at h
    obtain ⟨a, b, d, rfl, h1, h2, h3⟩ := all2_3 h
    obtain ⟨c, rfl⟩ := typ_cat h1
    obtain ⟨l, rfl, hl⟩ := typ_skies h2
    obtain ⟨x, rfl, hx⟩ := typ_tru h3
    exact ⟨(c, l, x), rfl, hl, hx⟩
theorem over : Rows.riverMeltsRow.holds Try.pinned (OpenSpec.ofChange Rows.riverMeltsSpec) :=
  OpenClaim.holds_of_wide 14 Try.f14 rfl rfl rfl rfl rfl rfl rfl ⟨rfl, rfl, rfl, rfl, rfl⟩ rfl rfl rfl rfl rfl (by kernel_rfl) Try.func14 (by kernel_rfl)
    (of_decide_eq_true (by kernel_rfl)) (by unfold Func.isWrapper; first | (rw [if_pos (by decide +kernel)]; kernel_rfl) | (rw [if_neg (by decide +kernel)]; exact ⟨rfl, rfl⟩))
    (fun os started H enc _ => lifted os started H enc)
theorem proved : Rows.RiverMeltsSaid := over
end Go.Proofs.Ytbmnmappihnjgaa.riverMelts
