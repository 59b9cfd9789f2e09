/- A part of the proof of TowMeasures. -/
import Derived.Test.YtkimjjjaifmioaaProg
import Derived.Test.YtkimjjjaifmioaaW6
/- The law's known(): true, by a run of the mirror machine in the kernel. -/
set_option linter.unusedVariables false
namespace Go.Ev
open Go.Proofs
set_option maxRecDepth 100000
theorem mixK : Try.prog.follows .mixedOrders = true := by kernel_rfl
noncomputable def knownL : List (FuncId × Func) := [(65, Try.f65), (66, Try.f66), (41, Try.f41), (46, Try.f46), (40, Try.f40), (67, Try.f67), (68, Try.f68), (69, Try.f69), (42, Try.f42), (14, Try.f14), (47, Try.f47), (48, Try.f48), (70, Try.f70), (49, Try.f49), (20, Try.f20), (71, Try.f71), (72, Try.f72), (50, Try.f50), (73, Try.f73), (74, Try.f74), (51, Try.f51), (75, Try.f75), (76, Try.f76), (77, Try.f77), (55, Try.f55), (26, Try.f26), (33, Try.f33), (60, Try.f60), (61, Try.f61), (37, Try.f37), (78, Try.f78), (62, Try.f62), (34, Try.f34), (81, Try.f81), (82, Try.f82), (83, Try.f83), (79, Try.f79), (63, Try.f63), (88, Try.f88), (84, Try.f84), (92, Try.f92), (102, Try.f102), (93, Try.f93), (100, Try.f100), (101, Try.f101), (90, Try.f90), (103, Try.f103), (104, Try.f104), (94, Try.f94), (107, Try.f107), (106, Try.f106), (105, Try.f105), (95, Try.f95), (96, Try.f96), (97, Try.f97), (98, Try.f98), (99, Try.f99), (89, Try.f89), (85, Try.f85), (91, Try.f91), (87, Try.f87), (86, Try.f86), (80, Try.f80), (64, Try.f64), (35, Try.f35), (9, Try.f9)]
theorem gokK : GOK Try.prog (xg knownL) :=
  gok_cons Try.func65 rfl rfl (
  gok_cons Try.func66 rfl rfl (
  gok_cons Try.func41 rfl rfl (
  gok_cons Try.func46 rfl rfl (
  gok_cons Try.func40 rfl rfl (
  gok_cons Try.func67 rfl rfl (
  gok_cons Try.func68 rfl rfl (
  gok_cons Try.func69 rfl rfl (
  gok_cons Try.func42 rfl rfl (
  gok_cons Try.func14 rfl rfl (
  gok_cons Try.func47 rfl rfl (
  gok_cons Try.func48 rfl rfl (
  gok_cons Try.func70 rfl rfl (
  gok_cons Try.func49 rfl rfl (
  gok_cons Try.func20 rfl rfl (
  gok_cons Try.func71 rfl rfl (
  gok_cons Try.func72 rfl rfl (
  gok_cons Try.func50 rfl rfl (
  gok_cons Try.func73 rfl rfl (
  gok_cons Try.func74 rfl rfl (
  gok_cons Try.func51 rfl rfl (
  gok_cons Try.func75 rfl rfl (
  gok_cons Try.func76 rfl rfl (
  gok_cons Try.func77 rfl rfl (
  gok_cons Try.func55 rfl rfl (
  gok_cons Try.func26 rfl rfl (
  gok_cons Try.func33 rfl rfl (
  gok_cons Try.func60 rfl rfl (
  gok_cons Try.func61 rfl rfl (
  gok_cons Try.func37 rfl rfl (
  gok_cons Try.func78 rfl rfl (
  gok_cons Try.func62 rfl rfl (
  gok_cons Try.func34 rfl rfl (
  gok_cons Try.func81 rfl rfl (
  gok_cons Try.func82 rfl rfl (
  gok_cons Try.func83 rfl rfl (
  gok_cons Try.func79 rfl rfl (
  gok_cons Try.func63 rfl rfl (
  gok_cons Try.func88 rfl rfl (
  gok_cons Try.func84 rfl rfl (
  gok_cons Try.func92 rfl rfl (
  gok_cons Try.func102 rfl rfl (
  gok_cons Try.func93 rfl rfl (
  gok_cons Try.func100 rfl rfl (
  gok_cons Try.func101 rfl rfl (
  gok_cons Try.func90 rfl rfl (
  gok_cons Try.func103 rfl rfl (
  gok_cons Try.func104 rfl rfl (
  gok_cons Try.func94 rfl rfl (
  gok_cons Try.func107 rfl rfl (
  gok_cons Try.func106 rfl rfl (
  gok_cons Try.func105 rfl rfl (
  gok_cons Try.func95 rfl rfl (
  gok_cons Try.func96 rfl rfl (
  gok_cons Try.func97 rfl rfl (
  gok_cons Try.func98 rfl rfl (
  gok_cons Try.func99 rfl rfl (
  gok_cons Try.func89 rfl rfl (
  gok_cons Try.func85 rfl rfl (
  gok_cons Try.func91 rfl rfl (
  gok_cons Try.func87 rfl rfl (
  gok_cons Try.func86 rfl rfl (
  gok_cons Try.func80 rfl rfl (
  gok_cons Try.func64 rfl rfl (
  gok_cons Try.func35 rfl rfl (
  gok_cons Try.func9 rfl rfl (
  gok_nil))))))))))))))))))))))))))))))))))))))))))))))))))))))))))))))))))
theorem knownX : Mi.valM Try.prog (xg knownL) 300 40 9 = some (.v (.bool true)) := by kernel_rfl
def cKnown : Con := { α := Unit, enc := fun _ => [], ok := fun _ => True, res := fun _ => .v (.bool true) }
theorem hKnown : Has Try.prog 9 cKnown := Mi.has_mi gokK mixK knownX rfl
@[reducible] def c_thalweglaw03_known : Con := conF F_thalweglaw03_known (fun x => match x with | _ => []) (fun r => V.v (.bool (r)))
theorem h_thalweglaw03_known : Has Try.prog 9 c_thalweglaw03_known := by
  refine ⟨?_, hKnown.2⟩
  rintro ⟨_, r⟩ F w vs hF hv hok
  cases hok
  exact hKnown.1 () F w vs hF hv trivial
end Go.Ev
