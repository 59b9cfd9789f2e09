/- A part of the proof of TowEnds. -/
import Derived.Test.YtoffbeemeecjjaaProg
import Derived.Test.YtoffbeemeecjjaaW3
/- The law's known(): true, by a run of the mirror machine in the kernel. -/
set_option linter.unusedVariables false
namespace Go.Ev
open Go.Proofs
set_option maxRecDepth 100000
theorem mixK : Try.prog.follows .mixedOrders = true := by kernel_rfl
noncomputable def knownL : List (FuncId × Func) := [(62, Try.f62), (63, Try.f63), (36, Try.f36), (34, Try.f34), (35, Try.f35), (58, Try.f58), (64, Try.f64), (37, Try.f37), (11, Try.f11), (78, Try.f78), (79, Try.f79), (80, Try.f80), (97, Try.f97), (81, Try.f81), (54, Try.f54), (82, Try.f82), (83, Try.f83), (55, Try.f55), (84, Try.f84), (89, Try.f89), (90, Try.f90), (85, Try.f85), (56, Try.f56), (68, Try.f68), (86, Try.f86), (87, Try.f87), (59, Try.f59), (65, Try.f65), (66, Try.f66), (67, Try.f67), (40, Try.f40), (47, Try.f47), (69, Try.f69), (41, Try.f41), (102, Try.f102), (112, Try.f112), (103, Try.f103), (110, Try.f110), (111, Try.f111), (99, Try.f99), (113, Try.f113), (114, Try.f114), (104, Try.f104), (117, Try.f117), (116, Try.f116), (115, Try.f115), (105, Try.f105), (106, Try.f106), (107, Try.f107), (108, Try.f108), (109, Try.f109), (98, Try.f98), (93, Try.f93), (100, Try.f100), (95, Try.f95), (94, Try.f94), (75, Try.f75), (48, Try.f48), (22, Try.f22), (29, Try.f29), (32, Try.f32), (60, Try.f60), (88, Try.f88), (61, Try.f61), (33, Try.f33), (9, Try.f9)]
theorem gokK : GOK Try.prog (xg knownL) :=
  gok_cons Try.func62 rfl rfl (
  gok_cons Try.func63 rfl rfl (
  gok_cons Try.func36 rfl rfl (
  gok_cons Try.func34 rfl rfl (
  gok_cons Try.func35 rfl rfl (
  gok_cons Try.func58 rfl rfl (
  gok_cons Try.func64 rfl rfl (
  gok_cons Try.func37 rfl rfl (
  gok_cons Try.func11 rfl rfl (
  gok_cons Try.func78 rfl rfl (
  gok_cons Try.func79 rfl rfl (
  gok_cons Try.func80 rfl rfl (
  gok_cons Try.func97 rfl rfl (
  gok_cons Try.func81 rfl rfl (
  gok_cons Try.func54 rfl rfl (
  gok_cons Try.func82 rfl rfl (
  gok_cons Try.func83 rfl rfl (
  gok_cons Try.func55 rfl rfl (
  gok_cons Try.func84 rfl rfl (
  gok_cons Try.func89 rfl rfl (
  gok_cons Try.func90 rfl rfl (
  gok_cons Try.func85 rfl rfl (
  gok_cons Try.func56 rfl rfl (
  gok_cons Try.func68 rfl rfl (
  gok_cons Try.func86 rfl rfl (
  gok_cons Try.func87 rfl rfl (
  gok_cons Try.func59 rfl rfl (
  gok_cons Try.func65 rfl rfl (
  gok_cons Try.func66 rfl rfl (
  gok_cons Try.func67 rfl rfl (
  gok_cons Try.func40 rfl rfl (
  gok_cons Try.func47 rfl rfl (
  gok_cons Try.func69 rfl rfl (
  gok_cons Try.func41 rfl rfl (
  gok_cons Try.func102 rfl rfl (
  gok_cons Try.func112 rfl rfl (
  gok_cons Try.func103 rfl rfl (
  gok_cons Try.func110 rfl rfl (
  gok_cons Try.func111 rfl rfl (
  gok_cons Try.func99 rfl rfl (
  gok_cons Try.func113 rfl rfl (
  gok_cons Try.func114 rfl rfl (
  gok_cons Try.func104 rfl rfl (
  gok_cons Try.func117 rfl rfl (
  gok_cons Try.func116 rfl rfl (
  gok_cons Try.func115 rfl rfl (
  gok_cons Try.func105 rfl rfl (
  gok_cons Try.func106 rfl rfl (
  gok_cons Try.func107 rfl rfl (
  gok_cons Try.func108 rfl rfl (
  gok_cons Try.func109 rfl rfl (
  gok_cons Try.func98 rfl rfl (
  gok_cons Try.func93 rfl rfl (
  gok_cons Try.func100 rfl rfl (
  gok_cons Try.func95 rfl rfl (
  gok_cons Try.func94 rfl rfl (
  gok_cons Try.func75 rfl rfl (
  gok_cons Try.func48 rfl rfl (
  gok_cons Try.func22 rfl rfl (
  gok_cons Try.func29 rfl rfl (
  gok_cons Try.func32 rfl rfl (
  gok_cons Try.func60 rfl rfl (
  gok_cons Try.func88 rfl rfl (
  gok_cons Try.func61 rfl rfl (
  gok_cons Try.func33 rfl rfl (
  gok_cons Try.func9 rfl rfl (
  gok_nil))))))))))))))))))))))))))))))))))))))))))))))))))))))))))))))))))
theorem knownX : Mi.valM Try.prog (xg knownL) 300 40 9 = some (.v (.bool true)) := by kernel_rfl
def cKnown : Con := { α := Unit, enc := fun _ => [], ok := fun _ => True, res := fun _ => .v (.bool true) }
theorem hKnown : Has Try.prog 9 cKnown := Mi.has_mi gokK mixK knownX rfl
@[reducible] def c_thalweglaw03_known : Con := conF F_thalweglaw03_known (fun x => match x with | _ => []) (fun r => V.v (.bool (r)))
theorem h_thalweglaw03_known : Has Try.prog 9 c_thalweglaw03_known := by
  refine ⟨?_, hKnown.2⟩
  rintro ⟨_, r⟩ F w vs hF hv hok
  cases hok
  exact hKnown.1 () F w vs hF hv trivial
end Go.Ev
