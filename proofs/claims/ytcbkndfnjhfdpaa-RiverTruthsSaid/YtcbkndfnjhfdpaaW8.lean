/- A part of the proof of RiverFlows. -/
import Derived.Test.YtcbkndfnjhfdpaaProg
import Derived.Test.YtcbkndfnjhfdpaaW7
/- The law's known(): true, by a run of the mirror machine in the kernel. -/
set_option linter.unusedVariables false
namespace Go.Ev
open Go.Proofs
set_option maxRecDepth 100000
theorem mixK : Try.prog.follows .mixedOrders = true := by kernel_rfl
noncomputable def knownL : List (FuncId × Func) := [(72, Try.f72), (73, Try.f73), (48, Try.f48), (41, Try.f41), (86, Try.f86), (87, Try.f87), (88, Try.f88), (70, Try.f70), (40, Try.f40), (66, Try.f66), (67, Try.f67), (47, Try.f47), (69, Try.f69), (68, Try.f68), (39, Try.f39), (56, Try.f56), (81, Try.f81), (82, Try.f82), (83, Try.f83), (85, Try.f85), (84, Try.f84), (59, Try.f59), (60, Try.f60), (31, Try.f31), (11, Try.f11), (32, Try.f32), (45, Try.f45), (57, Try.f57), (58, Try.f58), (89, Try.f89), (90, Try.f90), (71, Try.f71), (42, Try.f42), (33, Try.f33), (92, Try.f92), (91, Try.f91), (74, Try.f74), (49, Try.f49), (46, Try.f46), (25, Try.f25), (29, Try.f29), (79, Try.f79), (80, Try.f80), (54, Try.f54), (55, Try.f55), (30, Try.f30), (8, Try.f8)]
theorem gokK : GOK Try.prog (xg knownL) :=
  gok_cons Try.func72 rfl rfl (
  gok_cons Try.func73 rfl rfl (
  gok_cons Try.func48 rfl rfl (
  gok_cons Try.func41 rfl rfl (
  gok_cons Try.func86 rfl rfl (
  gok_cons Try.func87 rfl rfl (
  gok_cons Try.func88 rfl rfl (
  gok_cons Try.func70 rfl rfl (
  gok_cons Try.func40 rfl rfl (
  gok_cons Try.func66 rfl rfl (
  gok_cons Try.func67 rfl rfl (
  gok_cons Try.func47 rfl rfl (
  gok_cons Try.func69 rfl rfl (
  gok_cons Try.func68 rfl rfl (
  gok_cons Try.func39 rfl rfl (
  gok_cons Try.func56 rfl rfl (
  gok_cons Try.func81 rfl rfl (
  gok_cons Try.func82 rfl rfl (
  gok_cons Try.func83 rfl rfl (
  gok_cons Try.func85 rfl rfl (
  gok_cons Try.func84 rfl rfl (
  gok_cons Try.func59 rfl rfl (
  gok_cons Try.func60 rfl rfl (
  gok_cons Try.func31 rfl rfl (
  gok_cons Try.func11 rfl rfl (
  gok_cons Try.func32 rfl rfl (
  gok_cons Try.func45 rfl rfl (
  gok_cons Try.func57 rfl rfl (
  gok_cons Try.func58 rfl rfl (
  gok_cons Try.func89 rfl rfl (
  gok_cons Try.func90 rfl rfl (
  gok_cons Try.func71 rfl rfl (
  gok_cons Try.func42 rfl rfl (
  gok_cons Try.func33 rfl rfl (
  gok_cons Try.func92 rfl rfl (
  gok_cons Try.func91 rfl rfl (
  gok_cons Try.func74 rfl rfl (
  gok_cons Try.func49 rfl rfl (
  gok_cons Try.func46 rfl rfl (
  gok_cons Try.func25 rfl rfl (
  gok_cons Try.func29 rfl rfl (
  gok_cons Try.func79 rfl rfl (
  gok_cons Try.func80 rfl rfl (
  gok_cons Try.func54 rfl rfl (
  gok_cons Try.func55 rfl rfl (
  gok_cons Try.func30 rfl rfl (
  gok_cons Try.func8 rfl rfl (
  gok_nil)))))))))))))))))))))))))))))))))))))))))))))))
theorem knownX : Mi.valM Try.prog (xg knownL) 400 60 8 = some (.v (.bool true)) := by kernel_rfl
def cKnown : Con := { α := Unit, enc := fun _ => [], ok := fun _ => True, res := fun _ => .v (.bool true) }
theorem hKnown : Has Try.prog 8 cKnown := Mi.has_mi gokK mixK knownX rfl
@[reducible] def c_thalweglaw01_known : Con := conF F_thalweglaw01_known (fun x => match x with | _ => []) (fun r => V.v (.bool (r)))
theorem h_thalweglaw01_known : Has Try.prog 8 c_thalweglaw01_known := by
  refine ⟨?_, hKnown.2⟩
  rintro ⟨_, r⟩ F w vs hF hv hok
  cases hok
  exact hKnown.1 () F w vs hF hv trivial
end Go.Ev
