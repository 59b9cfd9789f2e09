/- A part of the proof of HullSafes. -/
import Derived.Test.YtghleangoiogiaaGreatW10
/- A call of known(), by a run of the evaluator in the kernel. -/
set_option linter.unusedVariables false
namespace Go.Ev
open Go.Proofs
set_option maxRecDepth 100000
noncomputable def margs1 : List V := [(kval 17), V.sl [(V.v (.int .i64 (1))), (V.v (.int .i64 (1)))] 2, V.agg [(V.v (.int .i64 (1000))), (V.v (.int .i64 (1000)))], (kval 19)]
noncomputable def mres1 : V := V.tup [(V.v (.int .i64 (0))), (V.v (.int .i64 (7)))]
theorem mrun1 : xpure Tryz.prog (xcall Tryz.prog (xg knownL) 200 30) 11 margs1 = some mres1 := by kernel_rfl
theorem mhas1 : Has Tryz.prog 11 { α := Unit, enc := fun _ => margs1, ok := fun _ => True, res := fun _ => mres1 } := has_x gokK mixK mrun1 rfl
end Go.Ev
