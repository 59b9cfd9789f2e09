/- A part of the proof of TowConflicts. -/
import Derived.Test.YtignohgoodffbacProg
import Derived.Test.YtignohgoodffbacW8
/- The law's known(): true, by a run of the mirror machine in the kernel. -/
set_option linter.unusedVariables false
namespace Go.Ev
open Go.Proofs
set_option maxRecDepth 100000
theorem mixK : Try.prog.follows .mixedOrders = true := by kernel_rfl
noncomputable def knownL : List (FuncId × Func) := [(12, Try.f12), (51, Try.f51), (52, Try.f52), (27, Try.f27), (50, Try.f50), (59, Try.f59), (60, Try.f60), (64, Try.f64), (61, Try.f61), (35, Try.f35), (38, Try.f38), (54, Try.f54), (55, Try.f55), (46, Try.f46), (65, Try.f65), (66, Try.f66), (47, Try.f47), (67, Try.f67), (68, Try.f68), (48, Try.f48), (49, Try.f49), (25, Try.f25), (13, Try.f13), (26, Try.f26), (53, Try.f53), (28, Try.f28), (14, Try.f14), (29, Try.f29), (30, Try.f30), (56, Try.f56), (57, Try.f57), (31, Try.f31), (15, Try.f15), (34, Try.f34), (36, Try.f36), (37, Try.f37), (18, Try.f18), (32, Try.f32), (39, Try.f39), (19, Try.f19), (75, Try.f75), (85, Try.f85), (76, Try.f76), (83, Try.f83), (84, Try.f84), (73, Try.f73), (86, Try.f86), (87, Try.f87), (77, Try.f77), (90, Try.f90), (89, Try.f89), (88, Try.f88), (78, Try.f78), (79, Try.f79), (80, Try.f80), (81, Try.f81), (82, Try.f82), (72, Try.f72), (69, Try.f69), (74, Try.f74), (71, Try.f71), (70, Try.f70), (58, Try.f58), (33, Try.f33), (16, Try.f16), (5, Try.f5)]
theorem gokK : GOK Try.prog (xg knownL) :=
  gok_cons Try.func12 rfl rfl (
  gok_cons Try.func51 rfl rfl (
  gok_cons Try.func52 rfl rfl (
  gok_cons Try.func27 rfl rfl (
  gok_cons Try.func50 rfl rfl (
  gok_cons Try.func59 rfl rfl (
  gok_cons Try.func60 rfl rfl (
  gok_cons Try.func64 rfl rfl (
  gok_cons Try.func61 rfl rfl (
  gok_cons Try.func35 rfl rfl (
  gok_cons Try.func38 rfl rfl (
  gok_cons Try.func54 rfl rfl (
  gok_cons Try.func55 rfl rfl (
  gok_cons Try.func46 rfl rfl (
  gok_cons Try.func65 rfl rfl (
  gok_cons Try.func66 rfl rfl (
  gok_cons Try.func47 rfl rfl (
  gok_cons Try.func67 rfl rfl (
  gok_cons Try.func68 rfl rfl (
  gok_cons Try.func48 rfl rfl (
  gok_cons Try.func49 rfl rfl (
  gok_cons Try.func25 rfl rfl (
  gok_cons Try.func13 rfl rfl (
  gok_cons Try.func26 rfl rfl (
  gok_cons Try.func53 rfl rfl (
  gok_cons Try.func28 rfl rfl (
  gok_cons Try.func14 rfl rfl (
  gok_cons Try.func29 rfl rfl (
  gok_cons Try.func30 rfl rfl (
  gok_cons Try.func56 rfl rfl (
  gok_cons Try.func57 rfl rfl (
  gok_cons Try.func31 rfl rfl (
  gok_cons Try.func15 rfl rfl (
  gok_cons Try.func34 rfl rfl (
  gok_cons Try.func36 rfl rfl (
  gok_cons Try.func37 rfl rfl (
  gok_cons Try.func18 rfl rfl (
  gok_cons Try.func32 rfl rfl (
  gok_cons Try.func39 rfl rfl (
  gok_cons Try.func19 rfl rfl (
  gok_cons Try.func75 rfl rfl (
  gok_cons Try.func85 rfl rfl (
  gok_cons Try.func76 rfl rfl (
  gok_cons Try.func83 rfl rfl (
  gok_cons Try.func84 rfl rfl (
  gok_cons Try.func73 rfl rfl (
  gok_cons Try.func86 rfl rfl (
  gok_cons Try.func87 rfl rfl (
  gok_cons Try.func77 rfl rfl (
  gok_cons Try.func90 rfl rfl (
  gok_cons Try.func89 rfl rfl (
  gok_cons Try.func88 rfl rfl (
  gok_cons Try.func78 rfl rfl (
  gok_cons Try.func79 rfl rfl (
  gok_cons Try.func80 rfl rfl (
  gok_cons Try.func81 rfl rfl (
  gok_cons Try.func82 rfl rfl (
  gok_cons Try.func72 rfl rfl (
  gok_cons Try.func69 rfl rfl (
  gok_cons Try.func74 rfl rfl (
  gok_cons Try.func71 rfl rfl (
  gok_cons Try.func70 rfl rfl (
  gok_cons Try.func58 rfl rfl (
  gok_cons Try.func33 rfl rfl (
  gok_cons Try.func16 rfl rfl (
  gok_cons Try.func5 rfl rfl (
  gok_nil))))))))))))))))))))))))))))))))))))))))))))))))))))))))))))))))))
theorem knownX : Mi.valM Try.prog (xg knownL) 400 60 5 = some (.v (.bool true)) := by kernel_rfl
def cKnown : Con := { α := Unit, enc := fun _ => [], ok := fun _ => True, res := fun _ => .v (.bool true) }
theorem hKnown : Has Try.prog 5 cKnown := Mi.has_mi gokK mixK knownX rfl
@[reducible] def c_thalweglaw03_known : Con := conF F_thalweglaw03_known (fun x => match x with | _ => []) (fun r => V.v (.bool (r)))
theorem h_thalweglaw03_known : Has Try.prog 5 c_thalweglaw03_known := by
  refine ⟨?_, hKnown.2⟩
  rintro ⟨_, r⟩ F w vs hF hv hok
  cases hok
  exact hKnown.1 () F w vs hF hv trivial
end Go.Ev
