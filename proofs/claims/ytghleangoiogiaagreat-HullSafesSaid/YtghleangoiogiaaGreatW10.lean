/- A part of the proof of HullSafes. -/
import Derived.Test.YtghleangoiogiaaGreatW9
/- A call of known(), by a run of the evaluator in the kernel. -/
set_option linter.unusedVariables false
namespace Go.Ev
open Go.Proofs
set_option maxRecDepth 100000
noncomputable def margs0 : List V := [(kval 17), V.agg [(V.v (.int .i64 (1000))), (V.v (.int .i64 (1000)))], (kval 19)]
noncomputable def mres0 : V := V.tup [V.agg [V.sl [(V.v (.int .i64 (0))), (V.v (.int .i64 (1)))] 2, (V.v (.int .i64 (1))), (V.v (.int .i64 (1))), (V.v (.int .i64 (0))), (V.v (.int .i64 (0)))], (V.v (.int .i64 (0)))]
theorem mrun0 : xpure Tryz.prog (xcall Tryz.prog (xg knownL) 200 30) 20 margs0 = some mres0 := by kernel_rfl
theorem mhas0 : Has Tryz.prog 20 { α := Unit, enc := fun _ => margs0, ok := fun _ => True, res := fun _ => mres0 } := has_x gokK mixK mrun0 rfl
end Go.Ev
