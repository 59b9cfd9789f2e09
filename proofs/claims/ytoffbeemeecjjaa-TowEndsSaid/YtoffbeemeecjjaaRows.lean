/-
  No cell of these rows narrows 'for every input' (looked for: loops, veiled, ifaces, maps, wideKeys, modest, calm, conditions, laid).
  DERIVED. THE GIVEN ROWS OF THIS SEAT. 6 by the template 'for every input the law returns true; each argument reads behind the call as it read before'; 0 by the template 'total and deterministic' (their statements: YtoffbeemeecjjaaTotals.lean).
  GIVEN WITH THE SEED: the statements are not yours to turn. If you find one false, say at which input.
  Laid BY PROGRAM, IN A SANDBOX (cutbox-rows.mjs): the forced cells as the released guide's own fill.sh prints them over the translation 922865e96a983597… (all of the seat's roots in one cut). By AI agents, Wed Nov 11 2026. No macro, syntax, notation, axiom, sorry.
-/
import Derived.Test.YtoffbeemeecjjaaChecked
import GoSem.Claim
import GoSem.ClaimJoined
import GoSem.ClaimMapViews
import Derived.JoinedTies
import Derived.KernelRfl
namespace Go.Proofs.Ytoffbeemeecjjaa
/- THE CELL 'sum', in the pinned program and in every row, IS THE sha256 OF THE DUMP (.gsa) THAT YtoffbeemeecjjaaProg.lean LOADS. Nothing in Lean hashes anything: it is a label: what it is worth is what the hold of that sum in a sandbox is worth. -/
noncomputable def Try.pinned : Pinned := { name := "ytoffbeemeecjjaa", sum := "922865e96a98359756422b40c5366c1704fdd2c6f7123a369d2a1894b75548f9", checked := Try.checked }
namespace Rows
def none {H : Type} : Left H := { results := [], args := [] }

/-- 'thalweglaw03.TowStacks': WHATEVER THE INPUT: true; the input reads as it did. -/
def towStacksSpec : ChangeSpec := { name := "towStacks", fn := fun _ => fun
  | [d1, d2, d3] => { results := [.lit (.bool true)], args := [d1, d2, d3] }
  | _ => none }
def towStacksRow : OpenClaim := { program := "ytoffbeemeecjjaa", sum := "922865e96a98359756422b40c5366c1704fdd2c6f7123a369d2a1894b75548f9", func := "thalweg/thalweglaw03.TowStacks", spec := "towStacks", unfollowed := true, recurses := true, plainKeys := false, apart := false }
def TowStacksSaid : Prop := towStacksRow.holds Try.pinned (OpenSpec.ofChange towStacksSpec)

/-- ITS FALSE NEIGHBOUR: 'it returns false'. Refute it at one input. -/
def towStacksWrong : ChangeSpec := { name := "towStacks", fn := fun _ => fun
  | [d1, d2, d3] => { results := [.lit (.bool false)], args := [d1, d2, d3] }
  | _ => none }
def TowStacksWrongFalsely : Prop := towStacksRow.holds Try.pinned (OpenSpec.ofChange towStacksWrong)

/-- 'thalweglaw03.TowConflicts': WHATEVER THE INPUT: true; the input reads as it did. -/
def towConflictsSpec : ChangeSpec := { name := "towConflicts", fn := fun _ => fun
  | [d] => { results := [.lit (.bool true)], args := [d] }
  | _ => none }
def towConflictsRow : OpenClaim := { program := "ytoffbeemeecjjaa", sum := "922865e96a98359756422b40c5366c1704fdd2c6f7123a369d2a1894b75548f9", func := "thalweg/thalweglaw03.TowConflicts", spec := "towConflicts", unfollowed := true, recurses := true, plainKeys := false, apart := false }
def TowConflictsSaid : Prop := towConflictsRow.holds Try.pinned (OpenSpec.ofChange towConflictsSpec)

/-- ITS FALSE NEIGHBOUR: 'it returns false'. Refute it at one input. -/
def towConflictsWrong : ChangeSpec := { name := "towConflicts", fn := fun _ => fun
  | [d] => { results := [.lit (.bool false)], args := [d] }
  | _ => none }
def TowConflictsWrongFalsely : Prop := towConflictsRow.holds Try.pinned (OpenSpec.ofChange towConflictsWrong)

/-- 'thalweglaw03.TowHolds': WHATEVER THE INPUT: true; the input reads as it did. -/
def towHoldsSpec : ChangeSpec := { name := "towHolds", fn := fun _ => fun
  | [d1, d2] => { results := [.lit (.bool true)], args := [d1, d2] }
  | _ => none }
def towHoldsRow : OpenClaim := { program := "ytoffbeemeecjjaa", sum := "922865e96a98359756422b40c5366c1704fdd2c6f7123a369d2a1894b75548f9", func := "thalweg/thalweglaw03.TowHolds", spec := "towHolds", unfollowed := true, recurses := true, plainKeys := false, apart := false }
def TowHoldsSaid : Prop := towHoldsRow.holds Try.pinned (OpenSpec.ofChange towHoldsSpec)

/-- ITS FALSE NEIGHBOUR: 'it returns false'. Refute it at one input. -/
def towHoldsWrong : ChangeSpec := { name := "towHolds", fn := fun _ => fun
  | [d1, d2] => { results := [.lit (.bool false)], args := [d1, d2] }
  | _ => none }
def TowHoldsWrongFalsely : Prop := towHoldsRow.holds Try.pinned (OpenSpec.ofChange towHoldsWrong)

/-- 'thalweglaw03.TowOrders': WHATEVER THE INPUT: true; the input reads as it did. -/
def towOrdersSpec : ChangeSpec := { name := "towOrders", fn := fun _ => fun
  | [d1, d2] => { results := [.lit (.bool true)], args := [d1, d2] }
  | _ => none }
def towOrdersRow : OpenClaim := { program := "ytoffbeemeecjjaa", sum := "922865e96a98359756422b40c5366c1704fdd2c6f7123a369d2a1894b75548f9", func := "thalweg/thalweglaw03.TowOrders", spec := "towOrders", unfollowed := true, recurses := true, plainKeys := false, apart := false }
def TowOrdersSaid : Prop := towOrdersRow.holds Try.pinned (OpenSpec.ofChange towOrdersSpec)

/-- ITS FALSE NEIGHBOUR: 'it returns false'. Refute it at one input. -/
def towOrdersWrong : ChangeSpec := { name := "towOrders", fn := fun _ => fun
  | [d1, d2] => { results := [.lit (.bool false)], args := [d1, d2] }
  | _ => none }
def TowOrdersWrongFalsely : Prop := towOrdersRow.holds Try.pinned (OpenSpec.ofChange towOrdersWrong)

/-- 'thalweglaw03.TowEnds': WHATEVER THE INPUT: true; the input reads as it did. -/
def towEndsSpec : ChangeSpec := { name := "towEnds", fn := fun _ => fun
  | [d1, d2] => { results := [.lit (.bool true)], args := [d1, d2] }
  | _ => none }
def towEndsRow : OpenClaim := { program := "ytoffbeemeecjjaa", sum := "922865e96a98359756422b40c5366c1704fdd2c6f7123a369d2a1894b75548f9", func := "thalweg/thalweglaw03.TowEnds", spec := "towEnds", unfollowed := true, recurses := true, plainKeys := false, apart := false }
def TowEndsSaid : Prop := towEndsRow.holds Try.pinned (OpenSpec.ofChange towEndsSpec)

/-- ITS FALSE NEIGHBOUR: 'it returns false'. Refute it at one input. -/
def towEndsWrong : ChangeSpec := { name := "towEnds", fn := fun _ => fun
  | [d1, d2] => { results := [.lit (.bool false)], args := [d1, d2] }
  | _ => none }
def TowEndsWrongFalsely : Prop := towEndsRow.holds Try.pinned (OpenSpec.ofChange towEndsWrong)

/-- 'thalweglaw03.TowShortest': WHATEVER THE INPUT: true; the input reads as it did. -/
def towShortestSpec : ChangeSpec := { name := "towShortest", fn := fun _ => fun
  | [d1, d2, d3] => { results := [.lit (.bool true)], args := [d1, d2, d3] }
  | _ => none }
def towShortestRow : OpenClaim := { program := "ytoffbeemeecjjaa", sum := "922865e96a98359756422b40c5366c1704fdd2c6f7123a369d2a1894b75548f9", func := "thalweg/thalweglaw03.TowShortest", spec := "towShortest", unfollowed := true, recurses := true, plainKeys := false, apart := false }
def TowShortestSaid : Prop := towShortestRow.holds Try.pinned (OpenSpec.ofChange towShortestSpec)

/-- ITS FALSE NEIGHBOUR: 'it returns false'. Refute it at one input. -/
def towShortestWrong : ChangeSpec := { name := "towShortest", fn := fun _ => fun
  | [d1, d2, d3] => { results := [.lit (.bool false)], args := [d1, d2, d3] }
  | _ => none }
def TowShortestWrongFalsely : Prop := towShortestRow.holds Try.pinned (OpenSpec.ofChange towShortestWrong)

/- THE SECOND FORM. 'bulk': how many values and letters a reading holds, each counted each time it is reached (what is shared counts as often as it is met; a slice's spare places count too). A statement '..UptoSaid' is the law's where the arguments, and the package variables that the reading takes, are together of bulk at most 1048576: NARROWER than '..Said'. Prove '..Said' where nothing that the law and all that it calls make is longer than what came in: it says more and counts as full. Else prove '..UptoSaid'. A law counts once. -/
mutual
def uptoBulk {H : Type} : DataW H → Nat
  | .lit (.string bytes) => bytes.length + 1
  | .lit _ => 1
  | .nil => 1
  | .ptr d => uptoBulk d + 1
  | .slice elems spare => uptoBulkAll elems + uptoBulkAll spare + 1
  | .agg parts => uptoBulkAll parts + 1
  | .iface _ d => uptoBulk d + 1
  | .map entries => uptoBulkEntries entries + 1
  | .held _ => 1
def uptoBulkAll {H : Type} : List (DataW H) → Nat
  | [] => 0
  | d :: r => uptoBulk d + uptoBulkAll r
def uptoBulkEntries {H : Type} : List (Lit × DataW H) → Nat
  | [] => 0
  | x :: r => uptoBulkEntry x + uptoBulkEntries r
def uptoBulkEntry {H : Type} : Lit × DataW H → Nat
  | (.string bytes, d) => bytes.length + uptoBulk d + 1
  | (_, d) => uptoBulk d + 1
 end
def uptoSmall : (H : Type) → List (DataW H) → Bool := fun _ ds => decide (uptoBulkAll ds ≤ 1048576)
def OpenSpec.upto (s : _root_.Go.ChangeSpec) : _root_.Go.OpenSpec := { _root_.Go.OpenSpec.ofChange s with cond := some uptoSmall }

/-- 'thalweglaw03.TowStacks', WHERE WHAT IT READS IS OF BULK AT MOST 1048576: true; the input reads as it did. -/
def towStacksUptoRow : OpenClaim := { program := "ytoffbeemeecjjaa", sum := "922865e96a98359756422b40c5366c1704fdd2c6f7123a369d2a1894b75548f9", func := "thalweg/thalweglaw03.TowStacks", spec := "towStacks", unfollowed := true, recurses := true, plainKeys := false, apart := false, narrowed := true }
def TowStacksUptoSaid : Prop := towStacksUptoRow.holds Try.pinned (OpenSpec.upto towStacksSpec)

/-- 'thalweglaw03.TowConflicts', WHERE WHAT IT READS IS OF BULK AT MOST 1048576: true; the input reads as it did. -/
def towConflictsUptoRow : OpenClaim := { program := "ytoffbeemeecjjaa", sum := "922865e96a98359756422b40c5366c1704fdd2c6f7123a369d2a1894b75548f9", func := "thalweg/thalweglaw03.TowConflicts", spec := "towConflicts", unfollowed := true, recurses := true, plainKeys := false, apart := false, narrowed := true }
def TowConflictsUptoSaid : Prop := towConflictsUptoRow.holds Try.pinned (OpenSpec.upto towConflictsSpec)

/-- 'thalweglaw03.TowHolds', WHERE WHAT IT READS IS OF BULK AT MOST 1048576: true; the input reads as it did. -/
def towHoldsUptoRow : OpenClaim := { program := "ytoffbeemeecjjaa", sum := "922865e96a98359756422b40c5366c1704fdd2c6f7123a369d2a1894b75548f9", func := "thalweg/thalweglaw03.TowHolds", spec := "towHolds", unfollowed := true, recurses := true, plainKeys := false, apart := false, narrowed := true }
def TowHoldsUptoSaid : Prop := towHoldsUptoRow.holds Try.pinned (OpenSpec.upto towHoldsSpec)

/-- 'thalweglaw03.TowOrders', WHERE WHAT IT READS IS OF BULK AT MOST 1048576: true; the input reads as it did. -/
def towOrdersUptoRow : OpenClaim := { program := "ytoffbeemeecjjaa", sum := "922865e96a98359756422b40c5366c1704fdd2c6f7123a369d2a1894b75548f9", func := "thalweg/thalweglaw03.TowOrders", spec := "towOrders", unfollowed := true, recurses := true, plainKeys := false, apart := false, narrowed := true }
def TowOrdersUptoSaid : Prop := towOrdersUptoRow.holds Try.pinned (OpenSpec.upto towOrdersSpec)

/-- 'thalweglaw03.TowEnds', WHERE WHAT IT READS IS OF BULK AT MOST 1048576: true; the input reads as it did. -/
def towEndsUptoRow : OpenClaim := { program := "ytoffbeemeecjjaa", sum := "922865e96a98359756422b40c5366c1704fdd2c6f7123a369d2a1894b75548f9", func := "thalweg/thalweglaw03.TowEnds", spec := "towEnds", unfollowed := true, recurses := true, plainKeys := false, apart := false, narrowed := true }
def TowEndsUptoSaid : Prop := towEndsUptoRow.holds Try.pinned (OpenSpec.upto towEndsSpec)

/-- 'thalweglaw03.TowShortest', WHERE WHAT IT READS IS OF BULK AT MOST 1048576: true; the input reads as it did. -/
def towShortestUptoRow : OpenClaim := { program := "ytoffbeemeecjjaa", sum := "922865e96a98359756422b40c5366c1704fdd2c6f7123a369d2a1894b75548f9", func := "thalweg/thalweglaw03.TowShortest", spec := "towShortest", unfollowed := true, recurses := true, plainKeys := false, apart := false, narrowed := true }
def TowShortestUptoSaid : Prop := towShortestUptoRow.holds Try.pinned (OpenSpec.upto towShortestSpec)

end Rows
end Go.Proofs.Ytoffbeemeecjjaa
