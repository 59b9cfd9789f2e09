/- A part of the proof of HullSafes. -/
import Derived.Test.YtghleangoiogiaaGreatW11
/- The law's known(): true, by a run of the evaluator in the kernel. -/
set_option linter.unusedVariables false
namespace Go.Ev
open Go.Proofs
set_option maxRecDepth 100000
noncomputable def memoL : MemoL := [(20, margs0, mres0), (11, margs1, mres1)]
theorem memoOK : MOK Tryz.prog memoL := (mok_cons mhas0 (mok_cons mhas1 mok_nil))
theorem knownX : xpure Tryz.prog (xtop Tryz.prog (xg knownL) memoL 200 30) 6 [] = some (.v (.bool true)) := by kernel_rfl
def cKnown : Con := { α := Unit, enc := fun _ => [], ok := fun _ => True, res := fun _ => .v (.bool true) }
theorem hKnown : Has Tryz.prog 6 cKnown := has_m gokK mixK memoOK knownX rfl
@[reducible] def c_thalweglaw02_known : Con := conF F_thalweglaw02_known (fun x => match x with | _ => []) (fun r => V.v (.bool (r)))
theorem h_thalweglaw02_known : Has Tryz.prog 6 c_thalweglaw02_known := by
  refine ⟨?_, hKnown.2⟩
  rintro ⟨_, r⟩ F w vs hF hv hok
  cases hok
  exact hKnown.1 () F w vs hF hv trivial
end Go.Ev
