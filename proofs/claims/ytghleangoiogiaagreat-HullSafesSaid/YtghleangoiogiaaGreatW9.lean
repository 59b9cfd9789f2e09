/- A part of the proof of HullSafes. -/
import Derived.Test.YtghleangoiogiaaGreatProg
import Derived.Test.YtghleangoiogiaaGreatW8
/- The functions that known() reaches. -/
set_option linter.unusedVariables false
namespace Go.Ev
open Go.Proofs
set_option maxRecDepth 100000
theorem mixK : Tryz.prog.follows .mixedOrders = true := by kernel_rfl
noncomputable def knownL : List (FuncId × Func) := [(63, Tryz.f63), (64, Tryz.f64), (33, Tryz.f33), (62, Tryz.f62), (72, Tryz.f72), (101, Tryz.f101), (102, Tryz.f102), (103, Tryz.f103), (73, Tryz.f73), (74, Tryz.f74), (42, Tryz.f42), (32, Tryz.f32), (35, Tryz.f35), (47, Tryz.f47), (36, Tryz.f36), (66, Tryz.f66), (97, Tryz.f97), (68, Tryz.f68), (95, Tryz.f95), (93, Tryz.f93), (94, Tryz.f94), (65, Tryz.f65), (34, Tryz.f34), (96, Tryz.f96), (67, Tryz.f67), (69, Tryz.f69), (98, Tryz.f98), (70, Tryz.f70), (37, Tryz.f37), (18, Tryz.f18), (114, Tryz.f114), (129, Tryz.f129), (130, Tryz.f130), (131, Tryz.f131), (126, Tryz.f126), (115, Tryz.f115), (116, Tryz.f116), (108, Tryz.f108), (118, Tryz.f118), (117, Tryz.f117), (104, Tryz.f104), (119, Tryz.f119), (120, Tryz.f120), (121, Tryz.f121), (123, Tryz.f123), (122, Tryz.f122), (105, Tryz.f105), (106, Tryz.f106), (107, Tryz.f107), (78, Tryz.f78), (109, Tryz.f109), (79, Tryz.f79), (135, Tryz.f135), (136, Tryz.f136), (132, Tryz.f132), (127, Tryz.f127), (124, Tryz.f124), (134, Tryz.f134), (133, Tryz.f133), (128, Tryz.f128), (125, Tryz.f125), (110, Tryz.f110), (80, Tryz.f80), (49, Tryz.f49), (23, Tryz.f23), (24, Tryz.f24), (25, Tryz.f25), (8, Tryz.f8), (50, Tryz.f50), (26, Tryz.f26), (27, Tryz.f27), (11, Tryz.f11), (16, Tryz.f16), (17, Tryz.f17), (38, Tryz.f38), (19, Tryz.f19), (39, Tryz.f39), (100, Tryz.f100), (99, Tryz.f99), (71, Tryz.f71), (40, Tryz.f40), (41, Tryz.f41), (20, Tryz.f20), (75, Tryz.f75), (76, Tryz.f76), (43, Tryz.f43), (77, Tryz.f77), (44, Tryz.f44), (21, Tryz.f21), (45, Tryz.f45), (46, Tryz.f46), (48, Tryz.f48), (22, Tryz.f22), (6, Tryz.f6)]
theorem gokK : GOK Tryz.prog (xg knownL) :=
  gok_cons Tryz.func63 rfl rfl (
  gok_cons Tryz.func64 rfl rfl (
  gok_cons Tryz.func33 rfl rfl (
  gok_cons Tryz.func62 rfl rfl (
  gok_cons Tryz.func72 rfl rfl (
  gok_cons Tryz.func101 rfl rfl (
  gok_cons Tryz.func102 rfl rfl (
  gok_cons Tryz.func103 rfl rfl (
  gok_cons Tryz.func73 rfl rfl (
  gok_cons Tryz.func74 rfl rfl (
  gok_cons Tryz.func42 rfl rfl (
  gok_cons Tryz.func32 rfl rfl (
  gok_cons Tryz.func35 rfl rfl (
  gok_cons Tryz.func47 rfl rfl (
  gok_cons Tryz.func36 rfl rfl (
  gok_cons Tryz.func66 rfl rfl (
  gok_cons Tryz.func97 rfl rfl (
  gok_cons Tryz.func68 rfl rfl (
  gok_cons Tryz.func95 rfl rfl (
  gok_cons Tryz.func93 rfl rfl (
  gok_cons Tryz.func94 rfl rfl (
  gok_cons Tryz.func65 rfl rfl (
  gok_cons Tryz.func34 rfl rfl (
  gok_cons Tryz.func96 rfl rfl (
  gok_cons Tryz.func67 rfl rfl (
  gok_cons Tryz.func69 rfl rfl (
  gok_cons Tryz.func98 rfl rfl (
  gok_cons Tryz.func70 rfl rfl (
  gok_cons Tryz.func37 rfl rfl (
  gok_cons Tryz.func18 rfl rfl (
  gok_cons Tryz.func114 rfl rfl (
  gok_cons Tryz.func129 rfl rfl (
  gok_cons Tryz.func130 rfl rfl (
  gok_cons Tryz.func131 rfl rfl (
  gok_cons Tryz.func126 rfl rfl (
  gok_cons Tryz.func115 rfl rfl (
  gok_cons Tryz.func116 rfl rfl (
  gok_cons Tryz.func108 rfl rfl (
  gok_cons Tryz.func118 rfl rfl (
  gok_cons Tryz.func117 rfl rfl (
  gok_cons Tryz.func104 rfl rfl (
  gok_cons Tryz.func119 rfl rfl (
  gok_cons Tryz.func120 rfl rfl (
  gok_cons Tryz.func121 rfl rfl (
  gok_cons Tryz.func123 rfl rfl (
  gok_cons Tryz.func122 rfl rfl (
  gok_cons Tryz.func105 rfl rfl (
  gok_cons Tryz.func106 rfl rfl (
  gok_cons Tryz.func107 rfl rfl (
  gok_cons Tryz.func78 rfl rfl (
  gok_cons Tryz.func109 rfl rfl (
  gok_cons Tryz.func79 rfl rfl (
  gok_cons Tryz.func135 rfl rfl (
  gok_cons Tryz.func136 rfl rfl (
  gok_cons Tryz.func132 rfl rfl (
  gok_cons Tryz.func127 rfl rfl (
  gok_cons Tryz.func124 rfl rfl (
  gok_cons Tryz.func134 rfl rfl (
  gok_cons Tryz.func133 rfl rfl (
  gok_cons Tryz.func128 rfl rfl (
  gok_cons Tryz.func125 rfl rfl (
  gok_cons Tryz.func110 rfl rfl (
  gok_cons Tryz.func80 rfl rfl (
  gok_cons Tryz.func49 rfl rfl (
  gok_cons Tryz.func23 rfl rfl (
  gok_cons Tryz.func24 rfl rfl (
  gok_cons Tryz.func25 rfl rfl (
  gok_cons Tryz.func8 rfl rfl (
  gok_cons Tryz.func50 rfl rfl (
  gok_cons Tryz.func26 rfl rfl (
  gok_cons Tryz.func27 rfl rfl (
  gok_cons Tryz.func11 rfl rfl (
  gok_cons Tryz.func16 rfl rfl (
  gok_cons Tryz.func17 rfl rfl (
  gok_cons Tryz.func38 rfl rfl (
  gok_cons Tryz.func19 rfl rfl (
  gok_cons Tryz.func39 rfl rfl (
  gok_cons Tryz.func100 rfl rfl (
  gok_cons Tryz.func99 rfl rfl (
  gok_cons Tryz.func71 rfl rfl (
  gok_cons Tryz.func40 rfl rfl (
  gok_cons Tryz.func41 rfl rfl (
  gok_cons Tryz.func20 rfl rfl (
  gok_cons Tryz.func75 rfl rfl (
  gok_cons Tryz.func76 rfl rfl (
  gok_cons Tryz.func43 rfl rfl (
  gok_cons Tryz.func77 rfl rfl (
  gok_cons Tryz.func44 rfl rfl (
  gok_cons Tryz.func21 rfl rfl (
  gok_cons Tryz.func45 rfl rfl (
  gok_cons Tryz.func46 rfl rfl (
  gok_cons Tryz.func48 rfl rfl (
  gok_cons Tryz.func22 rfl rfl (
  gok_cons Tryz.func6 rfl rfl (
  gok_nil))))))))))))))))))))))))))))))))))))))))))))))))))))))))))))))))))))))))))))))))))))))))))))))
noncomputable def kval (f : FuncId) : V := (xpure Tryz.prog (xcall Tryz.prog (xg knownL) 200 30) f []).getD .top
end Go.Ev
