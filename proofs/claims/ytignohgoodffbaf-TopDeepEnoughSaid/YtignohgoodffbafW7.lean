/- A part of the proof of TopDeepEnough. -/
import Derived.Test.YtignohgoodffbafProg
import Derived.Test.YtignohgoodffbafW6
/- The law's known(): true, by a run of the mirror machine in the kernel. -/
set_option linter.unusedVariables false
namespace Go.Ev
open Go.Proofs
set_option maxRecDepth 100000
theorem mixK : Try.prog.follows .mixedOrders = true := by kernel_rfl
noncomputable def knownL : List (FuncId × Func) := [(29, Try.f29), (30, Try.f30), (17, Try.f17), (16, Try.f16), (18, Try.f18), (19, Try.f19), (31, Try.f31), (20, Try.f20), (5, Try.f5), (34, Try.f34), (35, Try.f35), (22, Try.f22), (36, Try.f36), (47, Try.f47), (48, Try.f48), (37, Try.f37), (23, Try.f23), (8, Try.f8), (59, Try.f59), (60, Try.f60), (61, Try.f61), (45, Try.f45), (32, Try.f32), (62, Try.f62), (63, Try.f63), (46, Try.f46), (33, Try.f33), (21, Try.f21), (7, Try.f7)]
theorem gokK : GOK Try.prog (xg knownL) :=
  gok_cons Try.func29 rfl rfl (
  gok_cons Try.func30 rfl rfl (
  gok_cons Try.func17 rfl rfl (
  gok_cons Try.func16 rfl rfl (
  gok_cons Try.func18 rfl rfl (
  gok_cons Try.func19 rfl rfl (
  gok_cons Try.func31 rfl rfl (
  gok_cons Try.func20 rfl rfl (
  gok_cons Try.func5 rfl rfl (
  gok_cons Try.func34 rfl rfl (
  gok_cons Try.func35 rfl rfl (
  gok_cons Try.func22 rfl rfl (
  gok_cons Try.func36 rfl rfl (
  gok_cons Try.func47 rfl rfl (
  gok_cons Try.func48 rfl rfl (
  gok_cons Try.func37 rfl rfl (
  gok_cons Try.func23 rfl rfl (
  gok_cons Try.func8 rfl rfl (
  gok_cons Try.func59 rfl rfl (
  gok_cons Try.func60 rfl rfl (
  gok_cons Try.func61 rfl rfl (
  gok_cons Try.func45 rfl rfl (
  gok_cons Try.func32 rfl rfl (
  gok_cons Try.func62 rfl rfl (
  gok_cons Try.func63 rfl rfl (
  gok_cons Try.func46 rfl rfl (
  gok_cons Try.func33 rfl rfl (
  gok_cons Try.func21 rfl rfl (
  gok_cons Try.func7 rfl rfl (
  gok_nil)))))))))))))))))))))))))))))
theorem knownX : Mi.valM Try.prog (xg knownL) 400 60 7 = some (.v (.bool true)) := by kernel_rfl
def cKnown : Con := { α := Unit, enc := fun _ => [], ok := fun _ => True, res := fun _ => .v (.bool true) }
theorem hKnown : Has Try.prog 7 cKnown := Mi.has_mi gokK mixK knownX rfl
@[reducible] def c_thalwegtop_knownRiver : Con := conF F_thalwegtop_knownRiver (fun x => match x with | _ => []) (fun r => V.v (.bool (r)))
theorem h_thalwegtop_knownRiver : Has Try.prog 7 c_thalwegtop_knownRiver := by
  refine ⟨?_, hKnown.2⟩
  rintro ⟨_, r⟩ F w vs hF hv hok
  cases hok
  exact hKnown.1 () F w vs hF hv trivial
end Go.Ev
