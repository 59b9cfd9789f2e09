/-
  No cell of these rows narrows 'for every input' (looked for: loops, veiled, ifaces, maps, wideKeys, modest, calm, conditions, laid).
  DERIVED. THE GIVEN ROWS OF THIS SEAT. 6 by the template 'for every input the law returns true; each argument reads behind the call as it read before'; 0 by the template 'total and deterministic' (their statements: YtbmnmappihnjgabTotals.lean).
  GIVEN WITH THE SEED: the statements are not yours to turn. If you find one false, say at which input.
  Laid BY PROGRAM, IN A SANDBOX (cutbox-rows.mjs): the forced cells as the released guide's own fill.sh prints them over the translation 88a6ef2ed7b8da37… (all of the seat's roots in one cut). By AI agents, Wed Nov 11 2026. No macro, syntax, notation, axiom, sorry.
-/
import Derived.Test.YtbmnmappihnjgabChecked
import GoSem.Claim
import GoSem.ClaimJoined
import GoSem.ClaimMapViews
import Derived.JoinedTies
import Derived.KernelRfl
namespace Go.Proofs.Ytbmnmappihnjgab
/- THE CELL 'sum', in the pinned program and in every row, IS THE sha256 OF THE DUMP (.gsa) THAT YtbmnmappihnjgabProg.lean LOADS. Nothing in Lean hashes anything: it is a label: what it is worth is what the hold of that sum in a sandbox is worth. -/
noncomputable def Try.pinned : Pinned := { name := "ytbmnmappihnjgab", sum := "88a6ef2ed7b8da3728d2e699177c77b829bad4ef3bba859142cbff812aef7716", checked := Try.checked }
namespace Rows
def none {H : Type} : Left H := { results := [], args := [] }

/-- 'thalweglaw02.HullLives': WHATEVER THE INPUT: true; the input reads as it did. -/
def hullLivesSpec : ChangeSpec := { name := "hullLives", fn := fun _ => fun
  | [d1, d2] => { results := [.lit (.bool true)], args := [d1, d2] }
  | _ => none }
def hullLivesRow : OpenClaim := { program := "ytbmnmappihnjgab", sum := "88a6ef2ed7b8da3728d2e699177c77b829bad4ef3bba859142cbff812aef7716", func := "thalweg/thalweglaw02.HullLives", spec := "hullLives", unfollowed := true, recurses := true, apart := false }
def HullLivesSaid : Prop := hullLivesRow.holds Try.pinned (OpenSpec.ofChange hullLivesSpec)

/-- ITS FALSE NEIGHBOUR: 'it returns false'. Refute it at one input. -/
def hullLivesWrong : ChangeSpec := { name := "hullLives", fn := fun _ => fun
  | [d1, d2] => { results := [.lit (.bool false)], args := [d1, d2] }
  | _ => none }
def HullLivesWrongFalsely : Prop := hullLivesRow.holds Try.pinned (OpenSpec.ofChange hullLivesWrong)

/-- 'thalweglaw02.HullLeast': WHATEVER THE INPUT: true; the input reads as it did. -/
def hullLeastSpec : ChangeSpec := { name := "hullLeast", fn := fun _ => fun
  | [d1, d2, d3] => { results := [.lit (.bool true)], args := [d1, d2, d3] }
  | _ => none }
def hullLeastRow : OpenClaim := { program := "ytbmnmappihnjgab", sum := "88a6ef2ed7b8da3728d2e699177c77b829bad4ef3bba859142cbff812aef7716", func := "thalweg/thalweglaw02.HullLeast", spec := "hullLeast", unfollowed := true, recurses := true, apart := false }
def HullLeastSaid : Prop := hullLeastRow.holds Try.pinned (OpenSpec.ofChange hullLeastSpec)

/-- ITS FALSE NEIGHBOUR: 'it returns false'. Refute it at one input. -/
def hullLeastWrong : ChangeSpec := { name := "hullLeast", fn := fun _ => fun
  | [d1, d2, d3] => { results := [.lit (.bool false)], args := [d1, d2, d3] }
  | _ => none }
def HullLeastWrongFalsely : Prop := hullLeastRow.holds Try.pinned (OpenSpec.ofChange hullLeastWrong)

/-- 'thalweglaw02.HullWelded': WHATEVER THE INPUT: true; the input reads as it did. -/
def hullWeldedSpec : ChangeSpec := { name := "hullWelded", fn := fun _ => fun
  | [d1, d2, d3] => { results := [.lit (.bool true)], args := [d1, d2, d3] }
  | _ => none }
def hullWeldedRow : OpenClaim := { program := "ytbmnmappihnjgab", sum := "88a6ef2ed7b8da3728d2e699177c77b829bad4ef3bba859142cbff812aef7716", func := "thalweg/thalweglaw02.HullWelded", spec := "hullWelded", unfollowed := true, recurses := true, apart := false }
def HullWeldedSaid : Prop := hullWeldedRow.holds Try.pinned (OpenSpec.ofChange hullWeldedSpec)

/-- ITS FALSE NEIGHBOUR: 'it returns false'. Refute it at one input. -/
def hullWeldedWrong : ChangeSpec := { name := "hullWelded", fn := fun _ => fun
  | [d1, d2, d3] => { results := [.lit (.bool false)], args := [d1, d2, d3] }
  | _ => none }
def HullWeldedWrongFalsely : Prop := hullWeldedRow.holds Try.pinned (OpenSpec.ofChange hullWeldedWrong)

/-- 'thalweglaw02.HullWears': WHATEVER THE INPUT: true; the input reads as it did. -/
def hullWearsSpec : ChangeSpec := { name := "hullWears", fn := fun _ => fun
  | [d1, d2, d3] => { results := [.lit (.bool true)], args := [d1, d2, d3] }
  | _ => none }
def hullWearsRow : OpenClaim := { program := "ytbmnmappihnjgab", sum := "88a6ef2ed7b8da3728d2e699177c77b829bad4ef3bba859142cbff812aef7716", func := "thalweg/thalweglaw02.HullWears", spec := "hullWears", unfollowed := true, recurses := true, apart := false }
def HullWearsSaid : Prop := hullWearsRow.holds Try.pinned (OpenSpec.ofChange hullWearsSpec)

/-- ITS FALSE NEIGHBOUR: 'it returns false'. Refute it at one input. -/
def hullWearsWrong : ChangeSpec := { name := "hullWears", fn := fun _ => fun
  | [d1, d2, d3] => { results := [.lit (.bool false)], args := [d1, d2, d3] }
  | _ => none }
def HullWearsWrongFalsely : Prop := hullWearsRow.holds Try.pinned (OpenSpec.ofChange hullWearsWrong)

/-- 'thalwegtop.TopSafeDepth': WHATEVER THE INPUT: true; the input reads as it did. -/
def topSafeDepthSpec : ChangeSpec := { name := "topSafeDepth", fn := fun _ => fun
  | [d1, d2, d3] => { results := [.lit (.bool true)], args := [d1, d2, d3] }
  | _ => none }
def topSafeDepthRow : OpenClaim := { program := "ytbmnmappihnjgab", sum := "88a6ef2ed7b8da3728d2e699177c77b829bad4ef3bba859142cbff812aef7716", func := "thalweg/thalwegtop.TopSafeDepth", spec := "topSafeDepth", unfollowed := true, recurses := true, apart := false }
def TopSafeDepthSaid : Prop := topSafeDepthRow.holds Try.pinned (OpenSpec.ofChange topSafeDepthSpec)

/-- ITS FALSE NEIGHBOUR: 'it returns false'. Refute it at one input. -/
def topSafeDepthWrong : ChangeSpec := { name := "topSafeDepth", fn := fun _ => fun
  | [d1, d2, d3] => { results := [.lit (.bool false)], args := [d1, d2, d3] }
  | _ => none }
def TopSafeDepthWrongFalsely : Prop := topSafeDepthRow.holds Try.pinned (OpenSpec.ofChange topSafeDepthWrong)

/-- 'thalwegtop.TopMoreWater': WHATEVER THE INPUT: true; the input reads as it did. -/
def topMoreWaterSpec : ChangeSpec := { name := "topMoreWater", fn := fun _ => fun
  | [d1, d2, d3] => { results := [.lit (.bool true)], args := [d1, d2, d3] }
  | _ => none }
def topMoreWaterRow : OpenClaim := { program := "ytbmnmappihnjgab", sum := "88a6ef2ed7b8da3728d2e699177c77b829bad4ef3bba859142cbff812aef7716", func := "thalweg/thalwegtop.TopMoreWater", spec := "topMoreWater", unfollowed := true, recurses := true, apart := false }
def TopMoreWaterSaid : Prop := topMoreWaterRow.holds Try.pinned (OpenSpec.ofChange topMoreWaterSpec)

/-- ITS FALSE NEIGHBOUR: 'it returns false'. Refute it at one input. -/
def topMoreWaterWrong : ChangeSpec := { name := "topMoreWater", fn := fun _ => fun
  | [d1, d2, d3] => { results := [.lit (.bool false)], args := [d1, d2, d3] }
  | _ => none }
def TopMoreWaterWrongFalsely : Prop := topMoreWaterRow.holds Try.pinned (OpenSpec.ofChange topMoreWaterWrong)

/- THE SECOND FORM. 'bulk': how many values and letters a reading holds, each counted each time it is reached (what is shared counts as often as it is met; a slice's spare places count too). A statement '..UptoSaid' is the law's where the arguments, and the package variables that the reading takes, are together of bulk at most 1048576: NARROWER than '..Said'. Prove '..Said' where nothing that the law and all that it calls make is longer than what came in: it says more and counts as full. Else prove '..UptoSaid'. A law counts once. -/
mutual
def uptoBulk {H : Type} : DataW H → Nat
  | .lit (.string bytes) => bytes.length + 1
  | .lit _ => 1
  | .nil => 1
  | .ptr d => uptoBulk d + 1
  | .slice elems spare => uptoBulkAll elems + uptoBulkAll spare + 1
  | .agg parts => uptoBulkAll parts + 1
  | .iface _ d => uptoBulk d + 1
  | .map entries => uptoBulkEntries entries + 1
  | .held _ => 1
def uptoBulkAll {H : Type} : List (DataW H) → Nat
  | [] => 0
  | d :: r => uptoBulk d + uptoBulkAll r
def uptoBulkEntries {H : Type} : List (Lit × DataW H) → Nat
  | [] => 0
  | x :: r => uptoBulkEntry x + uptoBulkEntries r
def uptoBulkEntry {H : Type} : Lit × DataW H → Nat
  | (.string bytes, d) => bytes.length + uptoBulk d + 1
  | (_, d) => uptoBulk d + 1
 end
def uptoSmall : (H : Type) → List (DataW H) → Bool := fun _ ds => decide (uptoBulkAll ds ≤ 1048576)
def OpenSpec.upto (s : _root_.Go.ChangeSpec) : _root_.Go.OpenSpec := { _root_.Go.OpenSpec.ofChange s with cond := some uptoSmall }

/-- 'thalweglaw02.HullLives', WHERE WHAT IT READS IS OF BULK AT MOST 1048576: true; the input reads as it did. -/
def hullLivesUptoRow : OpenClaim := { program := "ytbmnmappihnjgab", sum := "88a6ef2ed7b8da3728d2e699177c77b829bad4ef3bba859142cbff812aef7716", func := "thalweg/thalweglaw02.HullLives", spec := "hullLives", unfollowed := true, recurses := true, apart := false, narrowed := true }
def HullLivesUptoSaid : Prop := hullLivesUptoRow.holds Try.pinned (OpenSpec.upto hullLivesSpec)

/-- 'thalweglaw02.HullLeast', WHERE WHAT IT READS IS OF BULK AT MOST 1048576: true; the input reads as it did. -/
def hullLeastUptoRow : OpenClaim := { program := "ytbmnmappihnjgab", sum := "88a6ef2ed7b8da3728d2e699177c77b829bad4ef3bba859142cbff812aef7716", func := "thalweg/thalweglaw02.HullLeast", spec := "hullLeast", unfollowed := true, recurses := true, apart := false, narrowed := true }
def HullLeastUptoSaid : Prop := hullLeastUptoRow.holds Try.pinned (OpenSpec.upto hullLeastSpec)

/-- 'thalweglaw02.HullWelded', WHERE WHAT IT READS IS OF BULK AT MOST 1048576: true; the input reads as it did. -/
def hullWeldedUptoRow : OpenClaim := { program := "ytbmnmappihnjgab", sum := "88a6ef2ed7b8da3728d2e699177c77b829bad4ef3bba859142cbff812aef7716", func := "thalweg/thalweglaw02.HullWelded", spec := "hullWelded", unfollowed := true, recurses := true, apart := false, narrowed := true }
def HullWeldedUptoSaid : Prop := hullWeldedUptoRow.holds Try.pinned (OpenSpec.upto hullWeldedSpec)

/-- 'thalweglaw02.HullWears', WHERE WHAT IT READS IS OF BULK AT MOST 1048576: true; the input reads as it did. -/
def hullWearsUptoRow : OpenClaim := { program := "ytbmnmappihnjgab", sum := "88a6ef2ed7b8da3728d2e699177c77b829bad4ef3bba859142cbff812aef7716", func := "thalweg/thalweglaw02.HullWears", spec := "hullWears", unfollowed := true, recurses := true, apart := false, narrowed := true }
def HullWearsUptoSaid : Prop := hullWearsUptoRow.holds Try.pinned (OpenSpec.upto hullWearsSpec)

/-- 'thalwegtop.TopSafeDepth', WHERE WHAT IT READS IS OF BULK AT MOST 1048576: true; the input reads as it did. -/
def topSafeDepthUptoRow : OpenClaim := { program := "ytbmnmappihnjgab", sum := "88a6ef2ed7b8da3728d2e699177c77b829bad4ef3bba859142cbff812aef7716", func := "thalweg/thalwegtop.TopSafeDepth", spec := "topSafeDepth", unfollowed := true, recurses := true, apart := false, narrowed := true }
def TopSafeDepthUptoSaid : Prop := topSafeDepthUptoRow.holds Try.pinned (OpenSpec.upto topSafeDepthSpec)

/-- 'thalwegtop.TopMoreWater', WHERE WHAT IT READS IS OF BULK AT MOST 1048576: true; the input reads as it did. -/
def topMoreWaterUptoRow : OpenClaim := { program := "ytbmnmappihnjgab", sum := "88a6ef2ed7b8da3728d2e699177c77b829bad4ef3bba859142cbff812aef7716", func := "thalweg/thalwegtop.TopMoreWater", spec := "topMoreWater", unfollowed := true, recurses := true, apart := false, narrowed := true }
def TopMoreWaterUptoSaid : Prop := topMoreWaterUptoRow.holds Try.pinned (OpenSpec.upto topMoreWaterSpec)

end Rows
end Go.Proofs.Ytbmnmappihnjgab
