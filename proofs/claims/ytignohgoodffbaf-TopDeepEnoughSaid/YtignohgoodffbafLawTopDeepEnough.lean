/- A true voyage, one speed and one wait for each run, finds at each place of its way at least the depth that is reported, for rivers, forecasts and voyages of at most the sizes that the law names; others are not looked at. -/
import Derived.Test.YtignohgoodffbafRows
import Derived.Test.YtignohgoodffbafW9
set_option linter.unusedVariables false
namespace Go.Proofs.Ytignohgoodffbaf.topDeepEnough
open Go.Ev Go.RowKit Go.ChangeShapes
set_option maxRecDepth 100000
theorem own : ownKnob Try.prog.godebug = none := by kernel_rfl
theorem lifted (os : Os) (started : os.Started) (H : Type) (enc : TypeId × Value → H) :
    ReturnsInHanded {} Try.checked os 3 .any (Rows.topDeepEnoughSpec.pre6 enc Try.prog Try.f3 Rows.topDeepEnoughRow.domain false) (Rows.topDeepEnoughSpec.post enc Try.prog Try.f3 false true false false) := by
  refine lifted_law (C := Try.checked) (k := 8) (tb := 4) (con := _) own started (by kernel_rfl) Try.func3
    (ChangeSpec.witness6 (enc := enc) (C := Try.checked) false ⟨#[], #[.agg #[.slice none 0 0, .slice none 0 0], .slice none 0 0, .agg #[.int .i64 0, .int .i64 0, .slice none 0 0, .int .i64 0, .int .i64 0, .slice none 0 0, .slice none 0 0]], []⟩ 8 (by kernel_rfl) (by kernel_rfl) (by kernel_rfl) (by kernel_rfl)) rfl ?_ rfl Try.underlying4 (by kernel_rfl) (by kernel_rfl) (by kernel_rfl) (has_law h_thalwegtop_TopDeepEnough rfl) rfl (fun _ => rfl) ?_
  · intro ds hds
    match ds, hds with
    | [d0, d1, d2], _ => rfl
  · intro vss h
    rw [Try.params3] at h
    obtain ⟨w0, w1, w2, rfl, h0, h1, h2⟩ := all2_3 h
    obtain ⟨x0, rfl, k0⟩ := typ_TRiver_25 (n := 2) h0
    obtain ⟨x1, rfl, k1⟩ := typ_LLTBounds_26 (n := 4) h1
    obtain ⟨x2, rfl, k2⟩ := typ_Tthalwegtop_HaulTrip_35 (n := 2) h2
    exact ⟨(x0, x1, x2), rfl, haul_deep_law k0 k1 k2⟩
theorem over : Rows.topDeepEnoughRow.holds Try.pinned (OpenSpec.ofChange Rows.topDeepEnoughSpec) :=
  OpenClaim.holds_of_wide 3 Try.f3 rfl rfl rfl rfl rfl rfl rfl ⟨rfl, rfl, rfl, rfl, rfl⟩ rfl rfl rfl rfl rfl (by kernel_rfl) Try.func3 (by kernel_rfl)
    (of_decide_eq_true (by kernel_rfl)) (by unfold Func.isWrapper; first | (rw [if_pos (by decide +kernel)]; kernel_rfl) | (rw [if_neg (by decide +kernel)]; exact ⟨rfl, rfl⟩))
    (fun os started H enc _ => lifted os started H enc)
theorem proved : Rows.TopDeepEnoughSaid := over
end Go.Proofs.Ytignohgoodffbaf.topDeepEnough
