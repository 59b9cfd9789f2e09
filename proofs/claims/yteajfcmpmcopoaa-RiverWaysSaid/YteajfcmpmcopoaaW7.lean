/- A part of the proof of RiverShallow. -/
import Derived.Test.YteajfcmpmcopoaaProg
import Derived.Test.YteajfcmpmcopoaaW6
/- What the functions do over typed data. -/
set_option linter.unusedVariables false
set_option linter.unusedSimpArgs false
namespace Go.Ev
open Go.Proofs
set_option maxHeartbeats 8000000
set_option maxRecDepth 100000
structure TPass where
  Place : Int
  Hours : TBounds
  deriving DecidableEq
def eTPass (x : TPass) : List V := [(V.v (.int .i64 (x.Place))), (V.v (.int .i64 (x.Hours.Low))), (V.v (.int .i64 (x.Hours.High)))]

noncomputable def L_river_stream_checkWay_1 (a1 : List TPass) (a0 : Triver_stream) : LoopD (Int) (Unit ⊕ Int) (Unit) where
  step := fun s => match s with
    | s1 =>
      bif (decide (s1 < ((a1).length : Int))) then
        (idx? (a1) (s1)).bind fun x6 =>
        (F_river_find (a0.River, x6.Place)).bind fun y7 =>
        bif (!y7.2) then
          some (.inr (.inr 7))
        else
          (F_river_stream_hours (a0)).bind fun y8 =>
          (F_numbers_Valid (x6.Hours, 0, (wr (y8 - 1)))).bind fun y9 =>
          bif (!y9) then
            some (.inr (.inr 3))
          else
            some (.inl (wr (s1 + 1)))
      else
        some (.inr (.inl ()))
  at_ := fun s gh => match s, gh with
    | s1, () => ⟨[(2, (V.box 0 0)), (4, (V.v (.int .i64 (0)))), (15, (V.sl (recs eTPass (a1)) (a1).length)), (16, (V.v (.int .i64 (((a1).length : Int))))), (17, (V.v (.int .i64 (s1))))], [(0, Bx.var [(V.sl (recs eTReach (a0.River.Reaches)) (a0.River.Reaches).length), (V.sl (recs eTShoal (a0.River.Shoals)) (a0.River.Shoals).length), (V.sl (recs (eS eTBounds) (a0.flows_)) (a0.flows_).length)] false)], 1⟩
noncomputable def F_river_stream_checkWay : (Triver_stream × (List TPass)) → Option (Int) := fun x => match x with
  | (a0, a1) =>
    bif (((a1).length : Int) == 0) then
      some 4
    else
      bif (decide (((a1).length : Int) > 60)) then
        some 5
      else
        (loopC (L_river_stream_checkWay_1 a1 a0).step 0).bind fun e => match e with
        | (.inl ()) =>
          some 0
        | (.inr r10) =>
          some r10

noncomputable def L_river_stream_passDepth_1 (a1 : TPass) (a0 : Triver_stream) (y1 : Triver_site × Bool) : LoopD (Int × Int × Int × Int) ((Int × Int × Int)) (Unit) where
  step := fun s => match s with
    | (s3, s4, s5, s6) =>
      bif (decide (s4 < (wr ((wr (a1.Hours.High - a1.Hours.Low)) + 1)))) then
        (F_river_stream_depth (a0, y1.1, (wr (a1.Hours.Low + s4)))).bind fun y8 =>
        bif (decide (y8.Low < s5)) then
          some (.inl ((wr (a1.Hours.Low + s4)), (wr (s4 + 1)), y8.Low, (minmax true s6 y8.High)))
        else
          some (.inl (s3, (wr (s4 + 1)), s5, (minmax true s6 y8.High)))
      else
        some (.inr (s3, s5, s6))
  at_ := fun s gh => match s, gh with
    | (s3, s4, s5, s6), () => ⟨[(2, (V.box 0 0)), (3, (V.box 1 0)), (4, (V.box 2 0)), (5, (V.v (.int .i64 (s3)))), (6, (V.box 12 0)), (34, (V.v (.int .i64 ((wr ((wr (a1.Hours.High - a1.Hours.Low)) + 1)))))), (35, (V.v (.int .i64 (s4))))], [(0, Bx.var [(V.sl (recs eTReach (a0.River.Reaches)) (a0.River.Reaches).length), (V.sl (recs eTShoal (a0.River.Shoals)) (a0.River.Shoals).length), (V.sl (recs (eS eTBounds) (a0.flows_)) (a0.flows_).length)] false), (1, Bx.var [(V.v (.int .i64 (a1.Place))), (V.v (.int .i64 (a1.Hours.Low))), (V.v (.int .i64 (a1.Hours.High)))] false), (2, Bx.var [(V.v (.int .i64 (s5))), (V.v (.int .i64 (s6)))] false), (12, Bx.var [(V.v (.int .i64 (y1.1.Reach.Length))), (V.v (.int .i64 (y1.1.Reach.Delay))), (V.v (.int .i64 (y1.1.Reach.Base.Low))), (V.v (.int .i64 (y1.1.Reach.Base.High))), (V.sl (recs eTRateRow (y1.1.Reach.Curve)) (y1.1.Reach.Curve).length), (V.v (.int .i64 (y1.1.Reach.Weir))), (V.v (.int .i64 (y1.1.Reach.Bottom.Low))), (V.v (.int .i64 (y1.1.Reach.Bottom.High))), (V.v (.int .i64 (y1.1.Reach.Flood))), (V.v (.int .i64 (y1.1.number_))), (V.v (.int .i64 (y1.1.place_))), (V.sl (recs eTShoal (y1.1.shoals_)) (y1.1.shoals_).length)] false)], 13⟩
noncomputable def F_river_stream_passDepth : (Triver_stream × TPass) → Option (TBounds × Int) := fun x => match x with
  | (a0, a1) =>
    (F_river_find (a0.River, a1.Place)).bind fun y1 =>
    (F_river_stream_depth (a0, y1.1, a1.Hours.Low)).bind fun y2 =>
    (loopC (L_river_stream_passDepth_1 a1 a0 y1).step (a1.Hours.Low, 0, y2.Low, y2.High)).bind fun e => match e with
    | (s9, s10, s11) =>
      some ((⟨s10, s11⟩ : TBounds), s9)

noncomputable def L_river_Shallowest_1 (y1 : Triver_stream × Int) (a2 : List TPass) : LoopD (Int × Int × Int × Int × Int) ((Int × Int × Int × Int)) (Unit) where
  step := fun s => match s with
    | (s3, s4, s5, s6, s7) =>
      bif (decide (s4 < ((a2).length : Int))) then
        (idx? (a2) (s4)).bind fun x10 =>
        (F_river_stream_passDepth (y1.1, x10)).bind fun y11 =>
        bif (decide (y11.1.Low < s5)) then
          some (.inl (y11.2, (wr (s4 + 1)), y11.1.Low, (minmax false s6 y11.1.High), s4))
        else
          some (.inl (s3, (wr (s4 + 1)), s5, (minmax false s6 y11.1.High), s7))
      else
        some (.inr (s7, s3, s5, s6))
  at_ := fun s gh => match s, gh with
    | (s3, s4, s5, s6, s7), () => ⟨[(6, (V.box 1 0)), (7, (V.v (.int .i64 (s7)))), (8, (V.v (.int .i64 (s3)))), (9, (V.v (.int .i64 (y1.2)))), (10, (V.box 11 0)), (34, (V.sl (recs eTPass (a2)) (a2).length)), (35, (V.v (.int .i64 (((a2).length : Int))))), (36, (V.v (.int .i64 (s4))))], [(1, Bx.var [(V.v (.int .i64 (s5))), (V.v (.int .i64 (s6)))] false), (11, Bx.var [(V.sl (recs eTReach (y1.1.River.Reaches)) (y1.1.River.Reaches).length), (V.sl (recs eTShoal (y1.1.River.Shoals)) (y1.1.River.Shoals).length), (V.sl (recs (eS eTBounds) (y1.1.flows_)) (y1.1.flows_).length)] false)], 12⟩
noncomputable def F_river_Shallowest : (TRiver × (List (List TBounds)) × (List TPass)) → Option (TBounds × Int × Int × Int) := fun x => match x with
  | (a0, a1, a2) =>
    (F_river_run (a0, a1)).bind fun y1 =>
    bif (y1.2 != 0) then
      some ((⟨0, 0⟩ : TBounds), 0, 0, y1.2)
    else
      (F_river_stream_checkWay (y1.1, a2)).bind fun y2 =>
      bif (y2 != 0) then
        some ((⟨0, 0⟩ : TBounds), 0, 0, y2)
      else
        (loopC (L_river_Shallowest_1 y1 a2).step (0, 0, 9223372036854775807, 9223372036854775807, 0)).bind fun e => match e with
        | (s12, s13, s14, s15) =>
          some ((⟨s14, s15⟩ : TBounds), s12, s13, 0)

noncomputable def L_thalwegref01_Way_1 (a1 : List TPass) (a2 : Int) (a0 : TRiver) : LoopD (Int) (Unit ⊕ Int) (Unit) where
  step := fun s => match s with
    | s1 =>
      bif (decide (s1 < ((a1).length : Int))) then
        (idx? (a1) (s1)).bind fun x7 =>
        (F_thalwegref01_Places (a0)).bind fun y8 =>
        (F_thalwegref01_In (x7.Place, 0, (wr (y8 - 1)))).bind fun y9 =>
        bif (!y9) then
          some (.inr (.inr 7))
        else
          (idx? (a1) (s1)).bind fun x10 =>
          (F_thalwegref01_Valid (x10.Hours, 0, (wr (a2 - 1)))).bind fun y11 =>
          bif (!y11) then
            some (.inr (.inr 3))
          else
            some (.inl (wr (s1 + 1)))
      else
        some (.inr (.inl ()))
  at_ := fun s gh => match s, gh with
    | s1, () => ⟨[(1, (V.sl (recs eTPass (a1)) (a1).length)), (2, (V.v (.int .i64 (a2)))), (3, (V.box 0 0)), (6, (V.v (.int .i64 (0)))), (7, (V.v (.int .i64 (s1))))], [(0, Bx.var [(V.sl (recs eTReach (a0.Reaches)) (a0.Reaches).length), (V.sl (recs eTShoal (a0.Shoals)) (a0.Shoals).length)] false)], 1⟩
noncomputable def F_thalwegref01_Way : (TRiver × (List TPass) × Int) → Option (Int) := fun x => match x with
  | (a0, a1, a2) =>
    bif (((a1).length : Int) == 0) then
      some 4
    else
      bif (decide (((a1).length : Int) > 60)) then
        some 5
      else
        (loopC (L_thalwegref01_Way_1 a1 a2 a0).step 0).bind fun e => match e with
        | (.inl ()) =>
          some 0
        | (.inr r12) =>
          some r12

noncomputable def L_thalwegref01_Shallowest_1 (a1 : List (List TBounds)) (a2 : List TPass) (s2 : Int) (a0 : TRiver) (s4 : Int) : LoopD (Int × Int × Int × Int × Int) ((Int × Int × Int × Int)) (Unit) where
  step := fun s => match s with
    | (s23, s24, s25, s26, s27) =>
      (idx? (a2) (s2)).bind fun x31 =>
      bif (decide (s26 ≤ x31.Hours.High)) then
        (idx? (a2) (s2)).bind fun x32 =>
        (F_thalwegref01_Depth (a0, a1, x32.Place, s26)).bind fun y33 =>
        bif (decide (y33.Low < s27)) then
          some (.inl (s2, s26, (minmax true s25 y33.High), (wr (s26 + 1)), y33.Low))
        else
          some (.inl (s23, s24, (minmax true s25 y33.High), (wr (s26 + 1)), s27))
      else
        some (.inr (s23, s24, s25, s27))
  at_ := fun s gh => match s, gh with
    | (s23, s24, s25, s26, s27), () => ⟨[(1, (V.sl (recs (eS eTBounds) (a1)) (a1).length)), (2, (V.sl (recs eTPass (a2)) (a2).length)), (3, (V.box 0 0)), (6, (V.box 1 0)), (7, (V.v (.int .i64 (0)))), (8, (V.v (.int .i64 (0)))), (9, (V.box 5 0)), (10, (V.v (.int .i64 (s23)))), (11, (V.v (.int .i64 (s24)))), (12, (V.v (.int .i64 (s2)))), (13, (V.v (.int .i64 (s25)))), (14, (V.v (.int .i64 (s26))))], [(0, Bx.var [(V.sl (recs eTReach (a0.Reaches)) (a0.Reaches).length), (V.sl (recs eTShoal (a0.Shoals)) (a0.Shoals).length)] false), (1, Bx.var [(V.v (.int .i64 (0))), (V.v (.int .i64 (0)))] false), (5, Bx.var [(V.v (.int .i64 (s27))), (V.v (.int .i64 (s4)))] false)], 6⟩
noncomputable def L_thalwegref01_Shallowest_2 (a1 : List (List TBounds)) (a2 : List TPass) (a0 : TRiver) : LoopD (Int × Int × Int × Int × Int) ((Int × Int × Int × Int)) (Unit) where
  step := fun s => match s with
    | (s1, s2, s3, s4, s5) =>
      bif (decide (s2 < ((a2).length : Int))) then
        (idx? (a2) (s2)).bind fun x22 =>
        (loopC (L_thalwegref01_Shallowest_1 a1 a2 s2 a0 s4).step (s5, s1, 0, x22.Hours.Low, s3)).bind fun e => match e with
        | (s34, s35, s36, s37) =>
          some (.inl (s35, (wr (s2 + 1)), s37, (minmax false s4 s36), s34))
      else
        some (.inr (s5, s1, s3, s4))
  at_ := fun s gh => match s, gh with
    | (s1, s2, s3, s4, s5), () => ⟨[(1, (V.sl (recs (eS eTBounds) (a1)) (a1).length)), (2, (V.sl (recs eTPass (a2)) (a2).length)), (3, (V.box 0 0)), (6, (V.box 1 0)), (7, (V.v (.int .i64 (0)))), (8, (V.v (.int .i64 (0)))), (9, (V.box 5 0)), (10, (V.v (.int .i64 (s5)))), (11, (V.v (.int .i64 (s1)))), (12, (V.v (.int .i64 (s2))))], [(0, Bx.var [(V.sl (recs eTReach (a0.Reaches)) (a0.Reaches).length), (V.sl (recs eTShoal (a0.Shoals)) (a0.Shoals).length)] false), (1, Bx.var [(V.v (.int .i64 (0))), (V.v (.int .i64 (0)))] false), (5, Bx.var [(V.v (.int .i64 (s3))), (V.v (.int .i64 (s4)))] false)], 6⟩
noncomputable def F_thalwegref01_Shallowest : (TRiver × (List (List TBounds)) × (List TPass)) → Option (TBounds × Int × Int) := fun x => match x with
  | (a0, a1, a2) =>
    (loopC (L_thalwegref01_Shallowest_2 a1 a2 a0).step (0, 0, 1000000, 1000000, 0)).bind fun e => match e with
    | (s38, s39, s40, s41) =>
      some ((⟨s40, s41⟩ : TBounds), s38, s39)

noncomputable def L_thalweglaw01_RiverShallow_1 (a1 : List TPass) (a0 : Tthalweglaw01_Forecast) : LoopD (Int × Int) (Int) (Unit) where
  step := fun s => match s with
    | (s4, s5) =>
      bif (decide (s5 < ((a1).length : Int))) then
        (idx? (a1) (s5)).bind fun x8 =>
        (F_thalwegref01_Valid (x8.Hours, 0, 400)).bind fun y9 =>
        bif y9 then
          some (.inl ((wr (s4 + (wr (x8.Hours.High - x8.Hours.Low)))), (wr (s5 + 1))))
        else
          some (.inl (s4, (wr (s5 + 1))))
      else
        some (.inr s4)
  at_ := fun s gh => match s, gh with
    | (s4, s5), () => ⟨[(1, (V.sl (recs eTPass (a1)) (a1).length)), (2, (V.box 0 0)), (4, (V.v (.bool (false)))), (5, (V.v (.int .i64 (s4)))), (6, (V.v (.int .i64 (s5))))], [(0, Bx.var [(V.sl (recs eTReach (a0.River.Reaches)) (a0.River.Reaches).length), (V.sl (recs eTShoal (a0.River.Shoals)) (a0.River.Shoals).length), (V.sl (recs (eS eTBounds) (a0.Sides)) (a0.Sides).length)] false)], 1⟩
noncomputable def L_thalweglaw01_RiverShallow_2 (a1 : List TPass) (y15 : TBounds × Int × Int × Int) (a0 : Tthalweglaw01_Forecast) (l12 : List TPass) : LoopD (Int) (Unit ⊕ Bool) (Nat) where
  step := fun s => match s with
    | s16 =>
      bif (decide (s16 < ((a1).length : Int))) then
        (idx? (l12) (s16)).bind fun x20 =>
        (idx? (a1) (s16)).bind fun x22 =>
        bif (!(x20.Place == x22.Place && (x20.Hours.Low == x22.Hours.Low && (x20.Hours.High == x22.Hours.High && true)))) then
          some (.inr (.inr false))
        else
          some (.inl (wr (s16 + 1)))
      else
        some (.inr (.inl ()))
  at_ := fun s gh => match s, gh with
    | s16, p9 => ⟨[(1, (V.sl (recs eTPass (a1)) (a1).length)), (2, (V.box 0 0)), (4, (V.v (.bool (false)))), (8, (V.osl 9 (l12).length)), (9, (V.box 24 0)), (10, (V.v (.int .i64 (y15.2.1)))), (11, (V.v (.int .i64 (y15.2.2.1)))), (12, (V.v (.int .i64 (y15.2.2.2)))), (13, (V.v (.int .i64 (s16))))], [(0, Bx.var [(V.sl (recs eTReach (a0.River.Reaches)) (a0.River.Reaches).length), (V.sl (recs eTShoal (a0.River.Shoals)) (a0.River.Shoals).length), (V.sl (recs (eS eTBounds) (a0.Sides)) (a0.Sides).length)] false), (9, Bx.row 77 3 (recs eTPass (l12)) p9), (24, Bx.var [(V.v (.int .i64 (y15.1.Low))), (V.v (.int .i64 (y15.1.High)))] false)], 25⟩
noncomputable def F_thalweglaw01_RiverShallow : (Tthalweglaw01_Forecast × (List TPass)) → Option (Bool) := fun x => match x with
  | (a0, a1) =>
    (F_thalweglaw01_large (a0)).bind fun y1 =>
    bif y1 then
      (F_thalweglaw01_known ()).bind fun y2 =>
      some y2
    else
      bif (decide (((a1).length : Int) > 70)) then
        (F_thalweglaw01_known ()).bind fun y3 =>
        some y3
      else
        (loopC (L_thalweglaw01_RiverShallow_1 a1 a0).step (0, 0)).bind fun e => match e with
        | s10 =>
          bif (decide (s10 > 2000)) then
            (F_thalweglaw01_known ()).bind fun y11 =>
            some y11
          else
            (app? (([] : List TPass)) (a1) 24).bind fun l12 =>
            (F_thalweglaw01_copied (a0.River)).bind fun y13 =>
            (F_thalweglaw01_forecast (a0.Sides)).bind fun y14 =>
            (F_river_Shallowest (y13, y14, l12)).bind fun y15 =>
            (loopC (L_thalweglaw01_RiverShallow_2 a1 y15 a0 l12).step 0).bind fun e => match e with
            | (.inl ()) =>
              (F_thalwegref01_Start (a0.River, a0.Sides)).bind fun y23 =>
              bif (y23 == 0) then
                (idx? (a0.Sides) (0)).bind fun x24 =>
                (F_thalwegref01_Way (a0.River, a1, ((x24).length : Int))).bind fun y25 =>
                bif (y25 != 0) then
                  bif (y15.2.2.2 == y25) then
                    bif (y15.1.Low == 0 && (y15.1.High == 0 && true)) then
                      bif (y15.2.1 == 0) then
                        bif (y15.2.2.1 == 0) then
                          (F_thalweglaw01_known ()).bind fun y26 =>
                          some y26
                        else
                          some false
                      else
                        some false
                    else
                      some false
                  else
                    some false
                else
                  (F_thalwegref01_Shallowest (a0.River, a0.Sides, a1)).bind fun y27 =>
                  bif (y15.2.2.2 == 0) then
                    bif (y15.1.Low == y27.1.Low && (y15.1.High == y27.1.High && true)) then
                      bif (y15.2.1 == y27.2.1) then
                        bif (y15.2.2.1 == y27.2.2) then
                          (F_thalweglaw01_known ()).bind fun y28 =>
                          some y28
                        else
                          some false
                      else
                        some false
                    else
                      some false
                  else
                    some false
              else
                bif (y15.2.2.2 == y23) then
                  bif (y15.1.Low == 0 && (y15.1.High == 0 && true)) then
                    bif (y15.2.1 == 0) then
                      bif (y15.2.2.1 == 0) then
                        (F_thalweglaw01_known ()).bind fun y29 =>
                        some y29
                      else
                        some false
                    else
                      some false
                  else
                    some false
                else
                  some false
            | (.inr r30) =>
              some r30
end Go.Ev
/- What the arguments of the law are. -/
set_option linter.unusedVariables false
set_option linter.unusedSimpArgs false
namespace Go.Ev
open Go.Proofs
set_option maxRecDepth 100000
def kTPass (x : TPass) : Prop := kIi64 (x.Place) ∧ kTBounds (x.Hours)
theorem typ_TPass_77 {n : Nat} {vs : List V} (h : Typ Try.prog (n + 3) 77 vs) : ∃ x : TPass, vs = eTPass x ∧ kTPass x := by
  unfold Typ at h
  simp only [Try.underlying77] at h
  obtain ⟨ls, rfl, h⟩ := h
  obtain ⟨v0, v1, rfl, h0, h1⟩ := all2_2 h
  obtain ⟨x0, rfl, k0⟩ := typ_Ii64_3 (n := n + 1) h0
  obtain ⟨x1, rfl, k1⟩ := typ_TBounds_27 (n := n + 0) h1
  exact ⟨⟨x0, x1⟩, rfl, k0, k1⟩
def kLTPass (l : List TPass) : Prop := l.length ≤ 140737488355328 ∧ ∀ x ∈ l, kTPass (x)
theorem typ_LTPass_75 {n : Nat} {vs : List V} (h : Typ Try.prog (n + 4) 75 vs) : ∃ x : List TPass, vs = [(V.sl (recs eTPass (x)) (x).length)] ∧ kLTPass (x) := by
  unfold Typ at h
  simp only [Try.underlying75] at h
  obtain ⟨ls, rfl, h1, h2⟩ := h
  obtain ⟨l, h3, h4, h5⟩ := typ_list (enc := eTPass) (fun vs hv => typ_TPass_77 (n := n) hv) ls h1
  refine ⟨l, by rw [h3, h4], ?_, h5⟩
  have hb : Try.prog.bytesOf 77 = 24 := by kernel_rfl
  rw [hb, h4] at h2
  have : reachBytes = 140737488351232 := rfl
  omega
end Go.Ev
