/-
  No cell of these rows narrows 'for every input' (looked for: loops, veiled, ifaces, maps, wideKeys, modest, calm, conditions, laid).
  DERIVED. THE GIVEN ROWS OF THIS SEAT. 4 by the template 'for every input the law returns true; each argument reads behind the call as it read before'; 0 by the template 'total and deterministic' (their statements: YtcbkndfnjhfdpaaTotals.lean).
  GIVEN WITH THE SEED: the statements are not yours to turn. If you find one false, say at which input.
  Laid BY PROGRAM, IN A SANDBOX (cutbox-rows.mjs): the forced cells as the released guide's own fill.sh prints them over the translation 03f6aa644fadbc92… (all of the seat's roots in one cut). By AI agents, Wed Nov 11 2026. No macro, syntax, notation, axiom, sorry.
-/
import Derived.Test.YtcbkndfnjhfdpaaChecked
import GoSem.Claim
import GoSem.ClaimJoined
import GoSem.ClaimMapViews
import Derived.JoinedTies
import Derived.KernelRfl
namespace Go.Proofs.Ytcbkndfnjhfdpaa
/- THE CELL 'sum', in the pinned program and in every row, IS THE sha256 OF THE DUMP (.gsa) THAT YtcbkndfnjhfdpaaProg.lean LOADS. Nothing in Lean hashes anything: it is a label: what it is worth is what the hold of that sum in a sandbox is worth. -/
noncomputable def Try.pinned : Pinned := { name := "ytcbkndfnjhfdpaa", sum := "03f6aa644fadbc92176095777e223f123b02af07ece7f2656fb1757367bcacd9", checked := Try.checked }
namespace Rows
def none {H : Type} : Left H := { results := [], args := [] }

/-- 'thalweglaw01.RiverFlows': WHATEVER THE INPUT: true; the input reads as it did. -/
def riverFlowsSpec : ChangeSpec := { name := "riverFlows", fn := fun _ => fun
  | [d] => { results := [.lit (.bool true)], args := [d] }
  | _ => none }
def riverFlowsRow : OpenClaim := { program := "ytcbkndfnjhfdpaa", sum := "03f6aa644fadbc92176095777e223f123b02af07ece7f2656fb1757367bcacd9", func := "thalweg/thalweglaw01.RiverFlows", spec := "riverFlows", unfollowed := true, recurses := true, apart := false }
def RiverFlowsSaid : Prop := riverFlowsRow.holds Try.pinned (OpenSpec.ofChange riverFlowsSpec)

/-- ITS FALSE NEIGHBOUR: 'it returns false'. Refute it at one input. -/
def riverFlowsWrong : ChangeSpec := { name := "riverFlows", fn := fun _ => fun
  | [d] => { results := [.lit (.bool false)], args := [d] }
  | _ => none }
def RiverFlowsWrongFalsely : Prop := riverFlowsRow.holds Try.pinned (OpenSpec.ofChange riverFlowsWrong)

/-- 'thalweglaw01.RiverTruths': WHATEVER THE INPUT: true; the input reads as it did. -/
def riverTruthsSpec : ChangeSpec := { name := "riverTruths", fn := fun _ => fun
  | [d1, d2, d3] => { results := [.lit (.bool true)], args := [d1, d2, d3] }
  | _ => none }
def riverTruthsRow : OpenClaim := { program := "ytcbkndfnjhfdpaa", sum := "03f6aa644fadbc92176095777e223f123b02af07ece7f2656fb1757367bcacd9", func := "thalweg/thalweglaw01.RiverTruths", spec := "riverTruths", unfollowed := true, recurses := true, apart := false }
def RiverTruthsSaid : Prop := riverTruthsRow.holds Try.pinned (OpenSpec.ofChange riverTruthsSpec)

/-- ITS FALSE NEIGHBOUR: 'it returns false'. Refute it at one input. -/
def riverTruthsWrong : ChangeSpec := { name := "riverTruths", fn := fun _ => fun
  | [d1, d2, d3] => { results := [.lit (.bool false)], args := [d1, d2, d3] }
  | _ => none }
def RiverTruthsWrongFalsely : Prop := riverTruthsRow.holds Try.pinned (OpenSpec.ofChange riverTruthsWrong)

/-- 'thalweglaw01.RiverEnds': WHATEVER THE INPUT: true; the input reads as it did. -/
def riverEndsSpec : ChangeSpec := { name := "riverEnds", fn := fun _ => fun
  | [d] => { results := [.lit (.bool true)], args := [d] }
  | _ => none }
def riverEndsRow : OpenClaim := { program := "ytcbkndfnjhfdpaa", sum := "03f6aa644fadbc92176095777e223f123b02af07ece7f2656fb1757367bcacd9", func := "thalweg/thalweglaw01.RiverEnds", spec := "riverEnds", unfollowed := true, recurses := true, apart := false }
def RiverEndsSaid : Prop := riverEndsRow.holds Try.pinned (OpenSpec.ofChange riverEndsSpec)

/-- ITS FALSE NEIGHBOUR: 'it returns false'. Refute it at one input. -/
def riverEndsWrong : ChangeSpec := { name := "riverEnds", fn := fun _ => fun
  | [d] => { results := [.lit (.bool false)], args := [d] }
  | _ => none }
def RiverEndsWrongFalsely : Prop := riverEndsRow.holds Try.pinned (OpenSpec.ofChange riverEndsWrong)

/-- 'thalweglaw01.RiverNarrows': WHATEVER THE INPUT: true; the input reads as it did. -/
def riverNarrowsSpec : ChangeSpec := { name := "riverNarrows", fn := fun _ => fun
  | [d1, d2, d3] => { results := [.lit (.bool true)], args := [d1, d2, d3] }
  | _ => none }
def riverNarrowsRow : OpenClaim := { program := "ytcbkndfnjhfdpaa", sum := "03f6aa644fadbc92176095777e223f123b02af07ece7f2656fb1757367bcacd9", func := "thalweg/thalweglaw01.RiverNarrows", spec := "riverNarrows", unfollowed := true, recurses := true, apart := false }
def RiverNarrowsSaid : Prop := riverNarrowsRow.holds Try.pinned (OpenSpec.ofChange riverNarrowsSpec)

/-- ITS FALSE NEIGHBOUR: 'it returns false'. Refute it at one input. -/
def riverNarrowsWrong : ChangeSpec := { name := "riverNarrows", fn := fun _ => fun
  | [d1, d2, d3] => { results := [.lit (.bool false)], args := [d1, d2, d3] }
  | _ => none }
def RiverNarrowsWrongFalsely : Prop := riverNarrowsRow.holds Try.pinned (OpenSpec.ofChange riverNarrowsWrong)

/- THE SECOND FORM. 'bulk': how many values and letters a reading holds, each counted each time it is reached (what is shared counts as often as it is met; a slice's spare places count too). A statement '..UptoSaid' is the law's where the arguments, and the package variables that the reading takes, are together of bulk at most 1048576: NARROWER than '..Said'. Prove '..Said' where nothing that the law and all that it calls make is longer than what came in: it says more and counts as full. Else prove '..UptoSaid'. A law counts once. -/
mutual
def uptoBulk {H : Type} : DataW H → Nat
  | .lit (.string bytes) => bytes.length + 1
  | .lit _ => 1
  | .nil => 1
  | .ptr d => uptoBulk d + 1
  | .slice elems spare => uptoBulkAll elems + uptoBulkAll spare + 1
  | .agg parts => uptoBulkAll parts + 1
  | .iface _ d => uptoBulk d + 1
  | .map entries => uptoBulkEntries entries + 1
  | .held _ => 1
def uptoBulkAll {H : Type} : List (DataW H) → Nat
  | [] => 0
  | d :: r => uptoBulk d + uptoBulkAll r
def uptoBulkEntries {H : Type} : List (Lit × DataW H) → Nat
  | [] => 0
  | x :: r => uptoBulkEntry x + uptoBulkEntries r
def uptoBulkEntry {H : Type} : Lit × DataW H → Nat
  | (.string bytes, d) => bytes.length + uptoBulk d + 1
  | (_, d) => uptoBulk d + 1
 end
def uptoSmall : (H : Type) → List (DataW H) → Bool := fun _ ds => decide (uptoBulkAll ds ≤ 1048576)
def OpenSpec.upto (s : _root_.Go.ChangeSpec) : _root_.Go.OpenSpec := { _root_.Go.OpenSpec.ofChange s with cond := some uptoSmall }

/-- 'thalweglaw01.RiverFlows', WHERE WHAT IT READS IS OF BULK AT MOST 1048576: true; the input reads as it did. -/
def riverFlowsUptoRow : OpenClaim := { program := "ytcbkndfnjhfdpaa", sum := "03f6aa644fadbc92176095777e223f123b02af07ece7f2656fb1757367bcacd9", func := "thalweg/thalweglaw01.RiverFlows", spec := "riverFlows", unfollowed := true, recurses := true, apart := false, narrowed := true }
def RiverFlowsUptoSaid : Prop := riverFlowsUptoRow.holds Try.pinned (OpenSpec.upto riverFlowsSpec)

/-- 'thalweglaw01.RiverTruths', WHERE WHAT IT READS IS OF BULK AT MOST 1048576: true; the input reads as it did. -/
def riverTruthsUptoRow : OpenClaim := { program := "ytcbkndfnjhfdpaa", sum := "03f6aa644fadbc92176095777e223f123b02af07ece7f2656fb1757367bcacd9", func := "thalweg/thalweglaw01.RiverTruths", spec := "riverTruths", unfollowed := true, recurses := true, apart := false, narrowed := true }
def RiverTruthsUptoSaid : Prop := riverTruthsUptoRow.holds Try.pinned (OpenSpec.upto riverTruthsSpec)

/-- 'thalweglaw01.RiverEnds', WHERE WHAT IT READS IS OF BULK AT MOST 1048576: true; the input reads as it did. -/
def riverEndsUptoRow : OpenClaim := { program := "ytcbkndfnjhfdpaa", sum := "03f6aa644fadbc92176095777e223f123b02af07ece7f2656fb1757367bcacd9", func := "thalweg/thalweglaw01.RiverEnds", spec := "riverEnds", unfollowed := true, recurses := true, apart := false, narrowed := true }
def RiverEndsUptoSaid : Prop := riverEndsUptoRow.holds Try.pinned (OpenSpec.upto riverEndsSpec)

/-- 'thalweglaw01.RiverNarrows', WHERE WHAT IT READS IS OF BULK AT MOST 1048576: true; the input reads as it did. -/
def riverNarrowsUptoRow : OpenClaim := { program := "ytcbkndfnjhfdpaa", sum := "03f6aa644fadbc92176095777e223f123b02af07ece7f2656fb1757367bcacd9", func := "thalweg/thalweglaw01.RiverNarrows", spec := "riverNarrows", unfollowed := true, recurses := true, apart := false, narrowed := true }
def RiverNarrowsUptoSaid : Prop := riverNarrowsUptoRow.holds Try.pinned (OpenSpec.upto riverNarrowsSpec)

end Rows
end Go.Proofs.Ytcbkndfnjhfdpaa
