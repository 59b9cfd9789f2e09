/- A part of the proof of HullFloats. -/
import Derived.Test.YteajfcmpmcopoabGreatProg
import Derived.Test.YteajfcmpmcopoabGreatW2
/- The functions that known() reaches. -/
set_option linter.unusedVariables false
namespace Go.Ev
open Go.Proofs
set_option maxRecDepth 100000
theorem mixK : Tryz.prog.follows .mixedOrders = true := by kernel_rfl
noncomputable def knownL : List (FuncId × Func) := [(86, Tryz.f86), (87, Tryz.f87), (46, Tryz.f46), (47, Tryz.f47), (88, Tryz.f88), (89, Tryz.f89), (90, Tryz.f90), (48, Tryz.f48), (49, Tryz.f49), (50, Tryz.f50), (13, Tryz.f13), (51, Tryz.f51), (116, Tryz.f116), (117, Tryz.f117), (91, Tryz.f91), (52, Tryz.f52), (14, Tryz.f14), (53, Tryz.f53), (84, Tryz.f84), (54, Tryz.f54), (92, Tryz.f92), (120, Tryz.f120), (94, Tryz.f94), (118, Tryz.f118), (119, Tryz.f119), (93, Tryz.f93), (95, Tryz.f95), (121, Tryz.f121), (96, Tryz.f96), (55, Tryz.f55), (15, Tryz.f15), (131, Tryz.f131), (149, Tryz.f149), (150, Tryz.f150), (151, Tryz.f151), (145, Tryz.f145), (132, Tryz.f132), (133, Tryz.f133), (109, Tryz.f109), (135, Tryz.f135), (134, Tryz.f134), (105, Tryz.f105), (136, Tryz.f136), (137, Tryz.f137), (138, Tryz.f138), (140, Tryz.f140), (139, Tryz.f139), (106, Tryz.f106), (107, Tryz.f107), (108, Tryz.f108), (76, Tryz.f76), (110, Tryz.f110), (122, Tryz.f122), (152, Tryz.f152), (153, Tryz.f153), (146, Tryz.f146), (141, Tryz.f141), (111, Tryz.f111), (148, Tryz.f148), (147, Tryz.f147), (142, Tryz.f142), (112, Tryz.f112), (78, Tryz.f78), (123, Tryz.f123), (99, Tryz.f99), (62, Tryz.f62), (63, Tryz.f63), (64, Tryz.f64), (25, Tryz.f25), (100, Tryz.f100), (65, Tryz.f65), (66, Tryz.f66), (26, Tryz.f26), (68, Tryz.f68), (129, Tryz.f129), (128, Tryz.f128), (102, Tryz.f102), (69, Tryz.f69), (70, Tryz.f70), (32, Tryz.f32), (42, Tryz.f42), (79, Tryz.f79), (43, Tryz.f43), (113, Tryz.f113), (114, Tryz.f114), (80, Tryz.f80), (115, Tryz.f115), (81, Tryz.f81), (44, Tryz.f44), (82, Tryz.f82), (83, Tryz.f83), (85, Tryz.f85), (45, Tryz.f45), (10, Tryz.f10)]
theorem gokK : GOK Tryz.prog (xg knownL) :=
  gok_cons Tryz.func86 rfl rfl (
  gok_cons Tryz.func87 rfl rfl (
  gok_cons Tryz.func46 rfl rfl (
  gok_cons Tryz.func47 rfl rfl (
  gok_cons Tryz.func88 rfl rfl (
  gok_cons Tryz.func89 rfl rfl (
  gok_cons Tryz.func90 rfl rfl (
  gok_cons Tryz.func48 rfl rfl (
  gok_cons Tryz.func49 rfl rfl (
  gok_cons Tryz.func50 rfl rfl (
  gok_cons Tryz.func13 rfl rfl (
  gok_cons Tryz.func51 rfl rfl (
  gok_cons Tryz.func116 rfl rfl (
  gok_cons Tryz.func117 rfl rfl (
  gok_cons Tryz.func91 rfl rfl (
  gok_cons Tryz.func52 rfl rfl (
  gok_cons Tryz.func14 rfl rfl (
  gok_cons Tryz.func53 rfl rfl (
  gok_cons Tryz.func84 rfl rfl (
  gok_cons Tryz.func54 rfl rfl (
  gok_cons Tryz.func92 rfl rfl (
  gok_cons Tryz.func120 rfl rfl (
  gok_cons Tryz.func94 rfl rfl (
  gok_cons Tryz.func118 rfl rfl (
  gok_cons Tryz.func119 rfl rfl (
  gok_cons Tryz.func93 rfl rfl (
  gok_cons Tryz.func95 rfl rfl (
  gok_cons Tryz.func121 rfl rfl (
  gok_cons Tryz.func96 rfl rfl (
  gok_cons Tryz.func55 rfl rfl (
  gok_cons Tryz.func15 rfl rfl (
  gok_cons Tryz.func131 rfl rfl (
  gok_cons Tryz.func149 rfl rfl (
  gok_cons Tryz.func150 rfl rfl (
  gok_cons Tryz.func151 rfl rfl (
  gok_cons Tryz.func145 rfl rfl (
  gok_cons Tryz.func132 rfl rfl (
  gok_cons Tryz.func133 rfl rfl (
  gok_cons Tryz.func109 rfl rfl (
  gok_cons Tryz.func135 rfl rfl (
  gok_cons Tryz.func134 rfl rfl (
  gok_cons Tryz.func105 rfl rfl (
  gok_cons Tryz.func136 rfl rfl (
  gok_cons Tryz.func137 rfl rfl (
  gok_cons Tryz.func138 rfl rfl (
  gok_cons Tryz.func140 rfl rfl (
  gok_cons Tryz.func139 rfl rfl (
  gok_cons Tryz.func106 rfl rfl (
  gok_cons Tryz.func107 rfl rfl (
  gok_cons Tryz.func108 rfl rfl (
  gok_cons Tryz.func76 rfl rfl (
  gok_cons Tryz.func110 rfl rfl (
  gok_cons Tryz.func122 rfl rfl (
  gok_cons Tryz.func152 rfl rfl (
  gok_cons Tryz.func153 rfl rfl (
  gok_cons Tryz.func146 rfl rfl (
  gok_cons Tryz.func141 rfl rfl (
  gok_cons Tryz.func111 rfl rfl (
  gok_cons Tryz.func148 rfl rfl (
  gok_cons Tryz.func147 rfl rfl (
  gok_cons Tryz.func142 rfl rfl (
  gok_cons Tryz.func112 rfl rfl (
  gok_cons Tryz.func78 rfl rfl (
  gok_cons Tryz.func123 rfl rfl (
  gok_cons Tryz.func99 rfl rfl (
  gok_cons Tryz.func62 rfl rfl (
  gok_cons Tryz.func63 rfl rfl (
  gok_cons Tryz.func64 rfl rfl (
  gok_cons Tryz.func25 rfl rfl (
  gok_cons Tryz.func100 rfl rfl (
  gok_cons Tryz.func65 rfl rfl (
  gok_cons Tryz.func66 rfl rfl (
  gok_cons Tryz.func26 rfl rfl (
  gok_cons Tryz.func68 rfl rfl (
  gok_cons Tryz.func129 rfl rfl (
  gok_cons Tryz.func128 rfl rfl (
  gok_cons Tryz.func102 rfl rfl (
  gok_cons Tryz.func69 rfl rfl (
  gok_cons Tryz.func70 rfl rfl (
  gok_cons Tryz.func32 rfl rfl (
  gok_cons Tryz.func42 rfl rfl (
  gok_cons Tryz.func79 rfl rfl (
  gok_cons Tryz.func43 rfl rfl (
  gok_cons Tryz.func113 rfl rfl (
  gok_cons Tryz.func114 rfl rfl (
  gok_cons Tryz.func80 rfl rfl (
  gok_cons Tryz.func115 rfl rfl (
  gok_cons Tryz.func81 rfl rfl (
  gok_cons Tryz.func44 rfl rfl (
  gok_cons Tryz.func82 rfl rfl (
  gok_cons Tryz.func83 rfl rfl (
  gok_cons Tryz.func85 rfl rfl (
  gok_cons Tryz.func45 rfl rfl (
  gok_cons Tryz.func10 rfl rfl (
  gok_nil))))))))))))))))))))))))))))))))))))))))))))))))))))))))))))))))))))))))))))))))))))))))))))))
noncomputable def kval (f : FuncId) : V := (xpure Tryz.prog (xcall Tryz.prog (xg knownL) 200 30) f []).getD .top
end Go.Ev
