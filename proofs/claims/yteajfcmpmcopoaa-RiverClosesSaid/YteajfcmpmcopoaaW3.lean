/- A part of the proof of RiverCloses. -/
import Derived.Test.YteajfcmpmcopoaaProg
import Derived.Test.YteajfcmpmcopoaaW2
/- What the functions do over typed data. -/
set_option linter.unusedVariables false
set_option linter.unusedSimpArgs false
namespace Go.Ev
open Go.Proofs
set_option maxHeartbeats 1000000
set_option maxRecDepth 100000
structure TClosure where
  From : Int
  To : Int
  Begin : TBounds
  End : TBounds
  deriving DecidableEq
def eTClosure (x : TClosure) : List V := [(V.v (.int .i64 (x.From))), (V.v (.int .i64 (x.To))), (V.v (.int .i64 (x.Begin.Low))), (V.v (.int .i64 (x.Begin.High))), (V.v (.int .i64 (x.End.Low))), (V.v (.int .i64 (x.End.High)))]
structure Tanon85 where
  a0 : Int
  a1 : Int
  deriving DecidableEq
def eTanon85 (x : Tanon85) : List V := [(V.v (.int .i64 (x.a0))), (V.v (.int .i64 (x.a1)))]
structure Tanon106 where
  a0 : Int
  a1 : Int
  a2 : Int
  deriving DecidableEq
def eTanon106 (x : Tanon106) : List V := [(V.v (.int .u16 (x.a0))), (V.v (.int .u16 (x.a1))), (V.v (.int .u16 (x.a2)))]

noncomputable def F_river_stream_level : (Triver_stream × Int × Int) → Option (TBounds) := fun x => match x with
  | (a0, a1, a2) =>
    (idx? (a0.River.Reaches) (a1)).bind fun x1 =>
    (idx? (a0.flows_) (a1)).bind fun x2 =>
    (idx? (x2) (a2)).bind fun x3 =>
    (F_river_levelAt (x1, x3)).bind fun y4 =>
    some y4

noncomputable def F_river_stream_findAt : (Triver_stream × Int × Int) → Option (Triver_site × Int) := fun x => match x with
  | (a0, a1, a2) =>
    (F_river_find (a0.River, a1)).bind fun y1 =>
    bif (!y1.2) then
      some ((⟨(⟨0, 0, (⟨0, 0⟩ : TBounds), ([] : List TRateRow), 0, (⟨0, 0⟩ : TBounds), 0⟩ : TReach), 0, 0, ([] : List TShoal)⟩ : Triver_site), 7)
    else
      (F_river_stream_hours (a0)).bind fun y2 =>
      (F_numbers_Within (0, (wr (y2 - 1)), ([a2] : List Int))).bind fun y3 =>
      bif (!y3) then
        some ((⟨(⟨0, 0, (⟨0, 0⟩ : TBounds), ([] : List TRateRow), 0, (⟨0, 0⟩ : TBounds), 0⟩ : TReach), 0, 0, ([] : List TShoal)⟩ : Triver_site), 3)
      else
        some (y1.1, 0)

noncomputable def F_river_checkClosures_1 : (TBounds) → Option (Bool) := fun x => match x with
  | (a0) =>
    (F_numbers_Valid (a0, (-400), 800)).bind fun y1 =>
    some y1

noncomputable def L_numbers_Every_Closure_1 (a1 : (TClosure → Option Bool)) (a0 : List TClosure) (g : FuncId) (caps : List V) : LoopD (Int) (Unit ⊕ Bool) (Unit) where
  step := fun s => match s with
    | s1 =>
      bif (decide (s1 < ((a0).length : Int))) then
        (idx? (a0) (s1)).bind fun x4 =>
        (a1 (x4)).bind fun y5 =>
        bif (!y5) then
          some (.inr (.inr false))
        else
          some (.inl (wr (s1 + 1)))
      else
        some (.inr (.inl ()))
  at_ := fun s gh => match s, gh with
    | s1, () => ⟨[(1, (V.fn g caps)), (4, (V.v (.bool (false)))), (7, (V.sl (recs eTClosure (a0)) (a0).length)), (8, (V.v (.int .i64 (((a0).length : Int))))), (9, (V.v (.int .i64 (s1))))], [], 0⟩
noncomputable def F_numbers_Every_Closure : ((List TClosure) × ((TClosure → Option Bool)) × FuncId × (List V)) → Option (Bool) := fun x => match x with
  | (a0, a1, g, caps) =>
    (loopC (L_numbers_Every_Closure_1 a1 a0 g caps).step 0).bind fun e => match e with
    | (.inl ()) =>
      some true
    | (.inr r6) =>
      some r6

noncomputable def F_river_checkClosures_2 : (TClosure × TRiver × ((TBounds → Option Bool)) × FuncId × (List V)) → Option (Bool) := fun x => match x with
  | (a0, c0, c1, g, caps) =>
    (F_river_find (c0, a0.From)).bind fun y1 =>
    (F_river_find (c0, a0.To)).bind fun y2 =>
    bif y1.2 then
      bif y2.2 then
        bif (decide (a0.From ≤ a0.To)) then
          (c1 (a0.Begin)).bind fun y3 =>
          bif y3 then
            (c1 (a0.End)).bind fun y4 =>
            some y4
          else
            some false
        else
          some false
      else
        some false
    else
      some false

noncomputable def F_river_checkClosures : (TRiver × (List TClosure)) → Option (Int) := fun x => match x with
  | (a0, a1) =>
    bif (decide (((a1).length : Int) > 40)) then
      some 5
    else
      (F_numbers_Every_Closure (a1, (fun q => F_river_checkClosures_2 (q, a0, (fun q => F_river_checkClosures_1 (q)), 97, [])), 99, [(V.fptr [(V.sl (recs eTReach (a0.Reaches)) (a0.Reaches).length), (V.sl (recs eTShoal (a0.Shoals)) (a0.Shoals).length)]), (V.fptr [(V.fn 97 [])])])).bind fun y1 =>
      bif (!y1) then
        some 2
      else
        some 0

noncomputable def L_slices_IndexFunc_L_Closure_Closure_1 (a0 : List TClosure) (a1 : (TClosure → Option Bool)) (g : FuncId) (caps : List V) : LoopD (Int) (Unit ⊕ Int) (Unit) where
  step := fun s => match s with
    | s1 =>
      bif (decide (s1 < ((a0).length : Int))) then
        (idx? (a0) (s1)).bind fun x4 =>
        (a1 (x4)).bind fun y5 =>
        bif y5 then
          some (.inr (.inr s1))
        else
          some (.inl (wr (s1 + 1)))
      else
        some (.inr (.inl ()))
  at_ := fun s gh => match s, gh with
    | s1, () => ⟨[(0, (V.sl (recs eTClosure (a0)) (a0).length)), (1, (V.fn g caps)), (4, (V.v (.int .i64 (0)))), (7, (V.v (.int .i64 (((a0).length : Int))))), (8, (V.v (.int .i64 (s1))))], [], 0⟩
noncomputable def F_slices_IndexFunc_L_Closure_Closure : ((List TClosure) × ((TClosure → Option Bool)) × FuncId × (List V)) → Option (Int) := fun x => match x with
  | (a0, a1, g, caps) =>
    (loopC (L_slices_IndexFunc_L_Closure_Closure_1 a0 a1 g caps).step 0).bind fun e => match e with
    | (.inl ()) =>
      some (-1)
    | (.inr r6) =>
      some r6

noncomputable def F_slices_ContainsFunc_L_Closure_Closure : ((List TClosure) × ((TClosure → Option Bool)) × FuncId × (List V)) → Option (Bool) := fun x => match x with
  | (a0, a1, g, caps) =>
    (F_slices_IndexFunc_L_Closure_Closure (a0, a1, g, caps)).bind fun y1 =>
    some (decide (y1 ≥ 0))

noncomputable def F_river_Closed_1 : (TClosure × Int × Int) → Option (Bool) := fun x => match x with
  | (a0, c0, c1) =>
    (F_numbers_Within (a0.From, a0.To, ([c0] : List Int))).bind fun y1 =>
    bif y1 then
      bif (decide (a0.Begin.Low ≤ c1)) then
        some (decide (c1 < a0.End.High))
      else
        some false
    else
      some false

noncomputable def F_river_Closed_2 : (TClosure × Int × Int) → Option (Bool) := fun x => match x with
  | (a0, c0, c1) =>
    (F_numbers_Within (a0.From, a0.To, ([c0] : List Int))).bind fun y1 =>
    bif y1 then
      bif (decide (a0.Begin.High ≤ c1)) then
        some (decide (c1 < a0.End.Low))
      else
        some false
    else
      some false

noncomputable def F_river_Closed : (TRiver × (List (List TBounds)) × (List TClosure) × Int × Int) → Option (Bool × Bool × Int) := fun x => match x with
  | (a0, a1, a2, a3, a4) =>
    (F_river_run (a0, a1)).bind fun y1 =>
    bif (y1.2 != 0) then
      some (false, false, y1.2)
    else
      (F_river_checkClosures (a0, a2)).bind fun y2 =>
      bif (y2 != 0) then
        some (false, false, y2)
      else
        (F_river_stream_findAt (y1.1, a3, a4)).bind fun y3 =>
        bif (y3.2 != 0) then
          some (false, false, y3.2)
        else
          (F_river_stream_level (y1.1, y3.1.number_, a4)).bind fun y4 =>
          bif (decide (y4.High > y3.1.Reach.Flood)) then
            bif (decide (y4.Low > y3.1.Reach.Flood)) then
              some (true, true, 0)
            else
              (F_slices_ContainsFunc_L_Closure_Closure (a2, (fun q => F_river_Closed_2 (q, a3, a4)), 87, [(V.fptr [(V.v (.int .i64 (a3)))]), (V.fptr [(V.v (.int .i64 (a4)))])])).bind fun y5 =>
              some (true, y5, 0)
          else
            (F_slices_ContainsFunc_L_Closure_Closure (a2, (fun q => F_river_Closed_1 (q, a3, a4)), 86, [(V.fptr [(V.v (.int .i64 (a3)))]), (V.fptr [(V.v (.int .i64 (a4)))])])).bind fun y6 =>
            bif (decide (y4.Low > y3.1.Reach.Flood)) then
              some (y6, true, 0)
            else
              (F_slices_ContainsFunc_L_Closure_Closure (a2, (fun q => F_river_Closed_2 (q, a3, a4)), 87, [(V.fptr [(V.v (.int .i64 (a3)))]), (V.fptr [(V.v (.int .i64 (a4)))])])).bind fun y7 =>
              some (y6, y7, 0)

noncomputable def L_thalwegref01_Closures_1 (a1 : List TClosure) (a0 : TRiver) : LoopD (Int) (Unit ⊕ Int) (Unit) where
  step := fun s => match s with
    | s1 =>
      bif (decide (s1 < ((a1).length : Int))) then
        (idx? (a1) (s1)).bind fun x9 =>
        (F_thalwegref01_Places (a0)).bind fun y10 =>
        (F_thalwegref01_In (x9.From, 0, (wr (y10 - 1)))).bind fun y11 =>
        bif (!y11) then
          some (.inr (.inr 2))
        else
          (F_thalwegref01_Places (a0)).bind fun y12 =>
          (F_thalwegref01_In (x9.To, x9.From, (wr (y12 - 1)))).bind fun y13 =>
          bif (!y13) then
            some (.inr (.inr 2))
          else
            (F_thalwegref01_Valid (x9.Begin, (-400), 800)).bind fun y14 =>
            bif (!y14) then
              some (.inr (.inr 2))
            else
              (F_thalwegref01_Valid (x9.End, (-400), 800)).bind fun y15 =>
              bif (!y15) then
                some (.inr (.inr 2))
              else
                some (.inl (wr (s1 + 1)))
      else
        some (.inr (.inl ()))
  at_ := fun s gh => match s, gh with
    | s1, () => ⟨[(1, (V.sl (recs eTClosure (a1)) (a1).length)), (2, (V.box 0 0)), (4, (V.v (.int .i64 (0)))), (5, (V.v (.int .i64 (s1))))], [(0, Bx.var [(V.sl (recs eTReach (a0.Reaches)) (a0.Reaches).length), (V.sl (recs eTShoal (a0.Shoals)) (a0.Shoals).length)] false)], 1⟩
noncomputable def F_thalwegref01_Closures : (TRiver × (List TClosure)) → Option (Int) := fun x => match x with
  | (a0, a1) =>
    bif (decide (((a1).length : Int) > 40)) then
      some 5
    else
      (loopC (L_thalwegref01_Closures_1 a1 a0).step 0).bind fun e => match e with
      | (.inl ()) =>
        some 0
      | (.inr r16) =>
        some r16

noncomputable def L_thalwegref01_Of_1 (a0 : TRiver) : LoopD (Int × Int) (Int) (Unit) where
  step := fun s => match s with
    | (s1, s2) =>
      (idx? (a0.Reaches) (s2)).bind fun x5 =>
      bif (decide (s1 ≥ x5.Length)) then
        (idx? (a0.Reaches) (s2)).bind fun x6 =>
        some (.inl ((wr (s1 - x6.Length)), (wr (s2 + 1))))
      else
        some (.inr s2)
  at_ := fun s gh => match s, gh with
    | (s1, s2), () => ⟨[(1, (V.v (.int .i64 (s1)))), (2, (V.box 0 0)), (4, (V.v (.int .i64 (0)))), (5, (V.v (.int .i64 (s2))))], [(0, Bx.var [(V.sl (recs eTReach (a0.Reaches)) (a0.Reaches).length), (V.sl (recs eTShoal (a0.Shoals)) (a0.Shoals).length)] false)], 1⟩
noncomputable def F_thalwegref01_Of : (TRiver × Int) → Option (Int) := fun x => match x with
  | (a0, a1) =>
    (loopC (L_thalwegref01_Of_1 a0).step (a1, 0)).bind fun e => match e with
    | s7 =>
      some s7

noncomputable def L_thalwegref01_Closed_1 (a2 : List TClosure) (a3 : Int) (a4 : Int) : LoopD (Int × Bool × Bool) ((Bool × Bool)) (Unit) where
  step := fun s => match s with
    | (s7, s8, s9) =>
      bif (decide (s7 < ((a2).length : Int))) then
        (idx? (a2) (s7)).bind fun x12 =>
        (F_thalwegref01_In (a3, x12.From, x12.To)).bind fun y13 =>
        bif (!y13) then
          some (.inl ((wr (s7 + 1)), s8, s9))
        else
          bif s8 then
            bif s9 then
              some (.inl ((wr (s7 + 1)), true, true))
            else
              bif (decide (a4 ≥ x12.Begin.High)) then
                some (.inl ((wr (s7 + 1)), true, (decide (a4 < x12.End.Low))))
              else
                some (.inl ((wr (s7 + 1)), true, false))
          else
            bif (decide (a4 ≥ x12.Begin.Low)) then
              bif s9 then
                some (.inl ((wr (s7 + 1)), (decide (a4 < x12.End.High)), true))
              else
                bif (decide (a4 ≥ x12.Begin.High)) then
                  some (.inl ((wr (s7 + 1)), (decide (a4 < x12.End.High)), (decide (a4 < x12.End.Low))))
                else
                  some (.inl ((wr (s7 + 1)), (decide (a4 < x12.End.High)), false))
            else
              bif s9 then
                some (.inl ((wr (s7 + 1)), false, true))
              else
                bif (decide (a4 ≥ x12.Begin.High)) then
                  some (.inl ((wr (s7 + 1)), false, (decide (a4 < x12.End.Low))))
                else
                  some (.inl ((wr (s7 + 1)), false, false))
      else
        some (.inr (s8, s9))
  at_ := fun s gh => match s, gh with
    | (s7, s8, s9), () => ⟨[(2, (V.sl (recs eTClosure (a2)) (a2).length)), (3, (V.v (.int .i64 (a3)))), (4, (V.v (.int .i64 (a4)))), (10, (V.v (.bool (false)))), (11, (V.v (.bool (false)))), (14, (V.v (.bool (s8)))), (15, (V.v (.bool (s9)))), (16, (V.v (.int .i64 (s7))))], [], 0⟩
noncomputable def F_thalwegref01_Closed : (TRiver × (List (List TBounds)) × (List TClosure) × Int × Int) → Option (Bool × Bool) := fun x => match x with
  | (a0, a1, a2, a3, a4) =>
    (F_thalwegref01_Of (a0, a3)).bind fun y1 =>
    (idx? (a0.Reaches) (y1)).bind fun x2 =>
    (F_thalwegref01_Flow (a0, a1, y1, a4)).bind fun y3 =>
    (F_thalwegref01_Level (x2, y3)).bind fun y4 =>
    (idx? (a0.Reaches) (y1)).bind fun x5 =>
    (idx? (a0.Reaches) (y1)).bind fun x6 =>
    (loopC (L_thalwegref01_Closed_1 a2 a3 a4).step (0, (decide (y4.High > x5.Flood)), (decide (y4.Low > x6.Flood)))).bind fun e => match e with
    | (s14, s15) =>
      some (s14, s15)

noncomputable def L_thalweglaw01_RiverCloses_1 (a1 : List TClosure) (y7 : Bool × Bool × Int) (a0 : Tthalweglaw01_Forecast) (a2 : Tanon85) (l4 : List TClosure) : LoopD (Int) (Unit ⊕ Bool) (Nat) where
  step := fun s => match s with
    | s8 =>
      bif (decide (s8 < ((a1).length : Int))) then
        (idx? (l4) (s8)).bind fun x12 =>
        (idx? (a1) (s8)).bind fun x14 =>
        bif (!(x12.From == x14.From && (x12.To == x14.To && (x12.Begin.Low == x14.Begin.Low && (x12.Begin.High == x14.Begin.High && (x12.End.Low == x14.End.Low && (x12.End.High == x14.End.High && true))))))) then
          some (.inr (.inr false))
        else
          some (.inl (wr (s8 + 1)))
      else
        some (.inr (.inl ()))
  at_ := fun s gh => match s, gh with
    | s8, p12 => ⟨[(1, (V.sl (recs eTClosure (a1)) (a1).length)), (3, (V.box 0 0)), (5, (V.box 1 0)), (6, (V.v (.bool (false)))), (7, (V.osl 12 (l4).length)), (8, (V.v (.bool (y7.1)))), (9, (V.v (.bool (y7.2.1)))), (10, (V.v (.int .i64 (y7.2.2)))), (11, (V.v (.int .i64 (s8))))], [(0, Bx.var [(V.sl (recs eTReach (a0.River.Reaches)) (a0.River.Reaches).length), (V.sl (recs eTShoal (a0.River.Shoals)) (a0.River.Shoals).length), (V.sl (recs (eS eTBounds) (a0.Sides)) (a0.Sides).length)] false), (1, Bx.var [(V.v (.int .i64 (a2.a0))), (V.v (.int .i64 (a2.a1)))] false), (12, Bx.row 89 6 (recs eTClosure (l4)) p12)], 13⟩
noncomputable def F_thalweglaw01_RiverCloses : (Tthalweglaw01_Forecast × (List TClosure) × Tanon85) → Option (Bool) := fun x => match x with
  | (a0, a1, a2) =>
    (F_thalweglaw01_large (a0)).bind fun y1 =>
    bif y1 then
      (F_thalweglaw01_known ()).bind fun y2 =>
      some y2
    else
      bif (decide (((a1).length : Int) > 50)) then
        (F_thalweglaw01_known ()).bind fun y3 =>
        some y3
      else
        (app? (([] : List TClosure)) (a1) 48).bind fun l4 =>
        (F_thalweglaw01_copied (a0.River)).bind fun y5 =>
        (F_thalweglaw01_forecast (a0.Sides)).bind fun y6 =>
        (F_river_Closed (y5, y6, l4, a2.a0, a2.a1)).bind fun y7 =>
        (loopC (L_thalweglaw01_RiverCloses_1 a1 y7 a0 a2 l4).step 0).bind fun e => match e with
        | (.inl ()) =>
          (F_thalwegref01_Start (a0.River, a0.Sides)).bind fun y15 =>
          bif (y15 == 0) then
            (F_thalwegref01_Closures (a0.River, a1)).bind fun y16 =>
            bif (y16 == 0) then
              (F_thalwegref01_Places (a0.River)).bind fun y17 =>
              (F_thalwegref01_In (a2.a0, 0, (wr (y17 - 1)))).bind fun y18 =>
              bif (!y18) then
                bif (y7.2.2 == 7) then
                  bif (!y7.1) then
                    bif (!y7.2.1) then
                      (F_thalweglaw01_known ()).bind fun y19 =>
                      some y19
                    else
                      some false
                  else
                    some false
                else
                  some false
              else
                (idx? (a0.Sides) (0)).bind fun x20 =>
                (F_thalwegref01_In (a2.a1, 0, (wr (((x20).length : Int) - 1)))).bind fun y21 =>
                bif (!y21) then
                  bif (y7.2.2 == 3) then
                    bif (!y7.1) then
                      bif (!y7.2.1) then
                        (F_thalweglaw01_known ()).bind fun y22 =>
                        some y22
                      else
                        some false
                    else
                      some false
                  else
                    some false
                else
                  (F_thalwegref01_Closed (a0.River, a0.Sides, a1, a2.a0, a2.a1)).bind fun y23 =>
                  bif (y7.2.2 == 0) then
                    bif (y7.1 == y23.1) then
                      bif (y7.2.1 == y23.2) then
                        (F_thalweglaw01_known ()).bind fun y24 =>
                        some y24
                      else
                        some false
                    else
                      some false
                  else
                    some false
            else
              bif (y7.2.2 == y16) then
                bif (!y7.1) then
                  bif (!y7.2.1) then
                    (F_thalweglaw01_known ()).bind fun y25 =>
                    some y25
                  else
                    some false
                else
                  some false
              else
                some false
          else
            bif (y7.2.2 == y15) then
              bif (!y7.1) then
                bif (!y7.2.1) then
                  (F_thalweglaw01_known ()).bind fun y26 =>
                  some y26
                else
                  some false
              else
                some false
            else
              some false
        | (.inr r27) =>
          some r27

noncomputable def L_thalweglaw01_valid_1 (s5 : Int) (a0 : Tthalweglaw01_Forecast) : LoopD (Int) (Unit ⊕ Bool) (Unit) where
  step := fun s => match s with
    | s18 =>
      (idx? (a0.Sides) (s5)).bind fun x22 =>
      bif (decide (s18 < ((x22).length : Int))) then
        (idx? (a0.Sides) (s5)).bind fun x23 =>
        (idx? (x23) (s18)).bind fun x24 =>
        bif (decide (x24.Low < 0)) then
          some (.inr (.inr false))
        else
          bif (decide (x24.Low > x24.High)) then
            some (.inr (.inr false))
          else
            bif (decide (x24.High > 10000000000)) then
              some (.inr (.inr false))
            else
              some (.inl (wr (s18 + 1)))
      else
        some (.inr (.inl ()))
  at_ := fun s gh => match s, gh with
    | s18, () => ⟨[(1, (V.box 0 0)), (2, (V.v (.bool (false)))), (3, (V.v (.int .i64 (s5)))), (4, (V.v (.int .i64 (s18))))], [(0, Bx.var [(V.sl (recs eTReach (a0.River.Reaches)) (a0.River.Reaches).length), (V.sl (recs eTShoal (a0.River.Shoals)) (a0.River.Shoals).length), (V.sl (recs (eS eTBounds) (a0.Sides)) (a0.Sides).length)] false)], 1⟩
noncomputable def L_thalweglaw01_valid_2 (a0 : Tthalweglaw01_Forecast) : LoopD (Int) (Unit ⊕ Bool) (Unit) where
  step := fun s => match s with
    | s5 =>
      bif (decide (s5 < ((a0.Sides).length : Int))) then
        (idx? (a0.Sides) (s5)).bind fun x16 =>
        (idx? (a0.Sides) (0)).bind fun x17 =>
        bif (((x16).length : Int) != ((x17).length : Int)) then
          some (.inr (.inr false))
        else
          (loopC (L_thalweglaw01_valid_1 s5 a0).step 0).bind fun e => match e with
          | (.inl ()) =>
            some (.inl (wr (s5 + 1)))
          | (.inr r25) =>
            some (.inr (.inr r25))
      else
        some (.inr (.inl ()))
  at_ := fun s gh => match s, gh with
    | s5, () => ⟨[(1, (V.box 0 0)), (2, (V.v (.bool (false)))), (3, (V.v (.int .i64 (s5))))], [(0, Bx.var [(V.sl (recs eTReach (a0.River.Reaches)) (a0.River.Reaches).length), (V.sl (recs eTShoal (a0.River.Shoals)) (a0.River.Shoals).length), (V.sl (recs (eS eTBounds) (a0.Sides)) (a0.Sides).length)] false)], 1⟩
noncomputable def F_thalweglaw01_valid : (Tthalweglaw01_Forecast) → Option (Bool) := fun x => match x with
  | (a0) =>
    (F_thalweglaw01_large (a0)).bind fun y1 =>
    bif y1 then
      some false
    else
      bif (decide (((a0.River.Reaches).length : Int) < 1)) then
        some false
      else
        bif (((a0.Sides).length : Int) != ((a0.River.Reaches).length : Int)) then
          some false
        else
          (idx? (a0.Sides) (0)).bind fun x2 =>
          bif (decide (((x2).length : Int) < 1)) then
            some false
          else
            (F_thalweglaw01_copied (a0.River)).bind fun y3 =>
            (F_river_Check (y3)).bind fun y4 =>
            bif (y4 != 0) then
              some false
            else
              (loopC (L_thalweglaw01_valid_2 a0).step 0).bind fun e => match e with
              | (.inl ()) =>
                (idx? (a0.Sides) (0)).bind fun x26 =>
                some (decide (((x26).length : Int) ≤ 400))
              | (.inr r27) =>
                some r27

noncomputable def L_thalweglaw01_RiverKeeps_1 (a1 : Tanon106) (a0 : Tthalweglaw01_Forecast) (x3 : List TBounds) (y9 : TBounds × Int) : LoopD (Int × Int × Int) ((Int × Int)) (Unit) where
  step := fun s => match s with
    | (s13, s14, s15) =>
      bif (decide (s13 < (wr ((Int.tmod (wr (a1.a1)) (wr (((x3).length : Int) + 1))) + (Int.tmod (wr (a1.a2)) (wr ((wr (((x3).length : Int) + 1)) - (Int.tmod (wr (a1.a1)) (wr (((x3).length : Int) + 1)))))))))) then
        (idx? (a0.Sides) ((Int.tmod (wr (a1.a0)) ((a0.Sides).length : Int)))).bind fun x20 =>
        (idx? (x20) (s13)).bind fun x21 =>
        (idx? (a0.Sides) ((Int.tmod (wr (a1.a0)) ((a0.Sides).length : Int)))).bind fun x22 =>
        (idx? (x22) (s13)).bind fun x23 =>
        some (.inl ((wr (s13 + 1)), (wr (s14 + x21.Low)), (wr (s15 + x23.High))))
      else
        some (.inr (s14, s15))
  at_ := fun s gh => match s, gh with
    | (s13, s14, s15), () => ⟨[(2, (V.box 0 0)), (4, (V.v (.bool (false)))), (6, (V.v (.int .i64 ((Int.tmod (wr (a1.a0)) ((a0.Sides).length : Int)))))), (7, (V.v (.int .i64 ((Int.tmod (wr (a1.a1)) (wr (((x3).length : Int) + 1))))))), (8, (V.v (.int .i64 ((wr ((Int.tmod (wr (a1.a1)) (wr (((x3).length : Int) + 1))) + (Int.tmod (wr (a1.a2)) (wr ((wr (((x3).length : Int) + 1)) - (Int.tmod (wr (a1.a1)) (wr (((x3).length : Int) + 1)))))))))))), (11, (V.box 66 0)), (15, (V.box 127 0)), (16, (V.v (.int .i64 (s13))))], [(0, Bx.var [(V.sl (recs eTReach (a0.River.Reaches)) (a0.River.Reaches).length), (V.sl (recs eTShoal (a0.River.Shoals)) (a0.River.Shoals).length), (V.sl (recs (eS eTBounds) (a0.Sides)) (a0.Sides).length)] false), (66, Bx.var [(V.v (.int .i64 (y9.1.Low))), (V.v (.int .i64 (y9.1.High)))] false), (127, Bx.var [(V.v (.int .i64 (s14))), (V.v (.int .i64 (s15)))] false)], 128⟩
noncomputable def F_thalweglaw01_RiverKeeps : (Tthalweglaw01_Forecast × Tanon106) → Option (Bool) := fun x => match x with
  | (a0, a1) =>
    (F_thalweglaw01_valid (a0)).bind fun y1 =>
    bif (!y1) then
      (F_thalweglaw01_known ()).bind fun y2 =>
      some y2
    else
      (idx? (a0.Sides) (0)).bind fun x3 =>
      (nz? (((a0.Sides).length : Int))).bind fun _ =>
      (nz? ((wr (((x3).length : Int) + 1)))).bind fun _ =>
      (nz? ((wr ((wr (((x3).length : Int) + 1)) - (Int.tmod (wr (a1.a1)) (wr (((x3).length : Int) + 1))))))).bind fun _ =>
      (F_thalweglaw01_copied (a0.River)).bind fun y4 =>
      (F_thalweglaw01_forecast (a0.Sides)).bind fun y5 =>
      (F_river_Volume (y4, y5, (Int.tmod (wr (a1.a0)) ((a0.Sides).length : Int)), 0, (Int.tmod (wr (a1.a1)) (wr (((x3).length : Int) + 1))))).bind fun y6 =>
      (F_thalweglaw01_copied (a0.River)).bind fun y7 =>
      (F_thalweglaw01_forecast (a0.Sides)).bind fun y8 =>
      (F_river_Volume (y7, y8, (Int.tmod (wr (a1.a0)) ((a0.Sides).length : Int)), (Int.tmod (wr (a1.a1)) (wr (((x3).length : Int) + 1))), (wr ((Int.tmod (wr (a1.a1)) (wr (((x3).length : Int) + 1))) + (Int.tmod (wr (a1.a2)) (wr ((wr (((x3).length : Int) + 1)) - (Int.tmod (wr (a1.a1)) (wr (((x3).length : Int) + 1)))))))))).bind fun y9 =>
      (F_thalweglaw01_copied (a0.River)).bind fun y10 =>
      (F_thalweglaw01_forecast (a0.Sides)).bind fun y11 =>
      (F_river_Volume (y10, y11, (Int.tmod (wr (a1.a0)) ((a0.Sides).length : Int)), 0, (wr ((Int.tmod (wr (a1.a1)) (wr (((x3).length : Int) + 1))) + (Int.tmod (wr (a1.a2)) (wr ((wr (((x3).length : Int) + 1)) - (Int.tmod (wr (a1.a1)) (wr (((x3).length : Int) + 1)))))))))).bind fun y12 =>
      bif (y6.2 != 0) then
        some false
      else
        bif (y9.2 != 0) then
          some false
        else
          bif (y12.2 != 0) then
            some false
          else
            bif ((wr (y6.1.Low + y9.1.Low)) != y12.1.Low) then
              some false
            else
              bif ((wr (y6.1.High + y9.1.High)) != y12.1.High) then
                some false
              else
                bif (decide (y9.1.Low < 0)) then
                  some false
                else
                  bif (decide (y9.1.Low > y9.1.High)) then
                    some false
                  else
                    (loopC (L_thalweglaw01_RiverKeeps_1 a1 a0 x3 y9).step ((Int.tmod (wr (a1.a1)) (wr (((x3).length : Int) + 1))), 0, 0)).bind fun e => match e with
                    | (s24, s25) =>
                      bif ((Int.tmod (wr (a1.a0)) ((a0.Sides).length : Int)) == 0) then
                        bif (y9.1.Low == s24 && (y9.1.High == s25 && true)) then
                          (F_thalweglaw01_known ()).bind fun y26 =>
                          some y26
                        else
                          some false
                      else
                        (idx? (a0.River.Reaches) ((wr ((Int.tmod (wr (a1.a0)) ((a0.Sides).length : Int)) - 1)))).bind fun x27 =>
                        bif (decide ((Int.tmod (wr (a1.a1)) (wr (((x3).length : Int) + 1))) < x27.Delay)) then
                          bif (decide (y9.1.Low ≥ s24)) then
                            bif (decide (y9.1.High ≥ s25)) then
                              (F_thalweglaw01_known ()).bind fun y28 =>
                              some y28
                            else
                              some false
                          else
                            some false
                        else
                          (F_thalweglaw01_copied (a0.River)).bind fun y29 =>
                          (F_thalweglaw01_forecast (a0.Sides)).bind fun y30 =>
                          (F_river_Volume (y29, y30, (wr ((Int.tmod (wr (a1.a0)) ((a0.Sides).length : Int)) - 1)), (wr ((Int.tmod (wr (a1.a1)) (wr (((x3).length : Int) + 1))) - x27.Delay)), (wr ((wr ((Int.tmod (wr (a1.a1)) (wr (((x3).length : Int) + 1))) + (Int.tmod (wr (a1.a2)) (wr ((wr (((x3).length : Int) + 1)) - (Int.tmod (wr (a1.a1)) (wr (((x3).length : Int) + 1)))))))) - x27.Delay)))).bind fun y31 =>
                          bif (y31.2 == 0) then
                            bif (y9.1.Low == (wr (y31.1.Low + s24)) && (y9.1.High == (wr (y31.1.High + s25)) && true)) then
                              (F_thalweglaw01_known ()).bind fun y32 =>
                              some y32
                            else
                              some false
                          else
                            some false
end Go.Ev
/- What the arguments of the law are. -/
set_option linter.unusedVariables false
set_option linter.unusedSimpArgs false
namespace Go.Ev
open Go.Proofs
set_option maxRecDepth 100000
theorem typ_list {α : Type} {enc : α → List V} {k : α → Prop} {n : Nat} {e : TypeId} (h : ∀ vs, Typ Try.prog n e vs → ∃ a, vs = enc a ∧ k a) : ∀ (ls : List (List V)), (∀ l ∈ ls, Typ Try.prog n e l) → ∃ l : List α, ls.flatten = recs enc l ∧ ls.length = l.length ∧ ∀ x ∈ l, k x
  | [], _ => ⟨[], rfl, rfl, fun x hx => by cases hx⟩
  | x :: ls, hl => by
    obtain ⟨a, rfl, ha⟩ := h x (hl x (by simp))
    obtain ⟨l, h1, h2, h3⟩ := typ_list h ls fun y hy => hl y (by simp [hy])
    refine ⟨a :: l, by simp [recs, List.flatten_cons, h1], by simp [h2], ?_⟩
    intro x hx
    cases hx with
    | head => exact ha
    | tail _ hx => exact h3 x hx
def kIi64 (i : Int) : Prop := IntKind.i64.min ≤ i ∧ i ≤ IntKind.i64.max
theorem typ_Ii64_3 {n : Nat} {vs : List V} (h : Typ Try.prog (n + 1) 3 vs) : ∃ x : Int, vs = [(V.v (.int .i64 (x)))] ∧ kIi64 (x) := by
  simp only [Typ, Try.underlying3] at h
  obtain ⟨i, rfl, hw⟩ := h
  refine ⟨i, rfl, ?_⟩
  simp only [Lit.wf, Bool.and_eq_true, decide_eq_true_eq] at hw
  exact hw
def kTBounds (x : TBounds) : Prop := kIi64 (x.Low) ∧ kIi64 (x.High)
theorem typ_TBounds_27 {n : Nat} {vs : List V} (h : Typ Try.prog (n + 2) 27 vs) : ∃ x : TBounds, vs = eTBounds x ∧ kTBounds x := by
  unfold Typ at h
  simp only [Try.underlying27] at h
  obtain ⟨ls, rfl, h⟩ := h
  obtain ⟨v0, v1, rfl, h0, h1⟩ := all2_2 h
  obtain ⟨x0, rfl, k0⟩ := typ_Ii64_3 (n := n + 0) h0
  obtain ⟨x1, rfl, k1⟩ := typ_Ii64_3 (n := n + 0) h1
  exact ⟨⟨x0, x1⟩, rfl, k0, k1⟩
def kTRateRow (x : TRateRow) : Prop := kIi64 (x.Flow) ∧ kIi64 (x.Level)
theorem typ_TRateRow_120 {n : Nat} {vs : List V} (h : Typ Try.prog (n + 2) 120 vs) : ∃ x : TRateRow, vs = eTRateRow x ∧ kTRateRow x := by
  unfold Typ at h
  simp only [Try.underlying120] at h
  obtain ⟨ls, rfl, h⟩ := h
  obtain ⟨v0, v1, rfl, h0, h1⟩ := all2_2 h
  obtain ⟨x0, rfl, k0⟩ := typ_Ii64_3 (n := n + 0) h0
  obtain ⟨x1, rfl, k1⟩ := typ_Ii64_3 (n := n + 0) h1
  exact ⟨⟨x0, x1⟩, rfl, k0, k1⟩
def kLTRateRow (l : List TRateRow) : Prop := l.length ≤ 140737488355328 ∧ ∀ x ∈ l, kTRateRow (x)
theorem typ_LTRateRow_28 {n : Nat} {vs : List V} (h : Typ Try.prog (n + 3) 28 vs) : ∃ x : List TRateRow, vs = [(V.sl (recs eTRateRow (x)) (x).length)] ∧ kLTRateRow (x) := by
  unfold Typ at h
  simp only [Try.underlying28] at h
  obtain ⟨ls, rfl, h1, h2⟩ := h
  obtain ⟨l, h3, h4, h5⟩ := typ_list (enc := eTRateRow) (fun vs hv => typ_TRateRow_120 (n := n) hv) ls h1
  refine ⟨l, by rw [h3, h4], ?_, h5⟩
  have hb : Try.prog.bytesOf 120 = 16 := by kernel_rfl
  rw [hb, h4] at h2
  have : reachBytes = 140737488351232 := rfl
  omega
def kTReach (x : TReach) : Prop := kIi64 (x.Length) ∧ kIi64 (x.Delay) ∧ kTBounds (x.Base) ∧ kLTRateRow (x.Curve) ∧ kIi64 (x.Weir) ∧ kTBounds (x.Bottom) ∧ kIi64 (x.Flood)
theorem typ_TReach_30 {n : Nat} {vs : List V} (h : Typ Try.prog (n + 4) 30 vs) : ∃ x : TReach, vs = eTReach x ∧ kTReach x := by
  unfold Typ at h
  simp only [Try.underlying30] at h
  obtain ⟨ls, rfl, h⟩ := h
  obtain ⟨v0, v1, v2, v3, v4, v5, v6, rfl, h0, h1, h2, h3, h4, h5, h6⟩ := all2_7 h
  obtain ⟨x0, rfl, k0⟩ := typ_Ii64_3 (n := n + 2) h0
  obtain ⟨x1, rfl, k1⟩ := typ_Ii64_3 (n := n + 2) h1
  obtain ⟨x2, rfl, k2⟩ := typ_TBounds_27 (n := n + 1) h2
  obtain ⟨x3, rfl, k3⟩ := typ_LTRateRow_28 (n := n + 0) h3
  obtain ⟨x4, rfl, k4⟩ := typ_Ii64_3 (n := n + 2) h4
  obtain ⟨x5, rfl, k5⟩ := typ_TBounds_27 (n := n + 1) h5
  obtain ⟨x6, rfl, k6⟩ := typ_Ii64_3 (n := n + 2) h6
  exact ⟨⟨x0, x1, x2, x3, x4, x5, x6⟩, rfl, k0, k1, k2, k3, k4, k5, k6⟩
def kLTReach (l : List TReach) : Prop := l.length ≤ 140737488355328 ∧ ∀ x ∈ l, kTReach (x)
theorem typ_LTReach_22 {n : Nat} {vs : List V} (h : Typ Try.prog (n + 5) 22 vs) : ∃ x : List TReach, vs = [(V.sl (recs eTReach (x)) (x).length)] ∧ kLTReach (x) := by
  unfold Typ at h
  simp only [Try.underlying22] at h
  obtain ⟨ls, rfl, h1, h2⟩ := h
  obtain ⟨l, h3, h4, h5⟩ := typ_list (enc := eTReach) (fun vs hv => typ_TReach_30 (n := n) hv) ls h1
  refine ⟨l, by rw [h3, h4], ?_, h5⟩
  have hb : Try.prog.bytesOf 30 = 88 := by kernel_rfl
  rw [hb, h4] at h2
  have : reachBytes = 140737488351232 := rfl
  omega
def kTShoal (x : TShoal) : Prop := kIi64 (x.Place) ∧ kTBounds (x.Bed) ∧ kIi64 (x.Sounded) ∧ kTBounds (x.Grow)
theorem typ_TShoal_102 {n : Nat} {vs : List V} (h : Typ Try.prog (n + 3) 102 vs) : ∃ x : TShoal, vs = eTShoal x ∧ kTShoal x := by
  unfold Typ at h
  simp only [Try.underlying102] at h
  obtain ⟨ls, rfl, h⟩ := h
  obtain ⟨v0, v1, v2, v3, rfl, h0, h1, h2, h3⟩ := all2_4 h
  obtain ⟨x0, rfl, k0⟩ := typ_Ii64_3 (n := n + 1) h0
  obtain ⟨x1, rfl, k1⟩ := typ_TBounds_27 (n := n + 0) h1
  obtain ⟨x2, rfl, k2⟩ := typ_Ii64_3 (n := n + 1) h2
  obtain ⟨x3, rfl, k3⟩ := typ_TBounds_27 (n := n + 0) h3
  exact ⟨⟨x0, x1, x2, x3⟩, rfl, k0, k1, k2, k3⟩
def kLTShoal (l : List TShoal) : Prop := l.length ≤ 140737488355328 ∧ ∀ x ∈ l, kTShoal (x)
theorem typ_LTShoal_23 {n : Nat} {vs : List V} (h : Typ Try.prog (n + 4) 23 vs) : ∃ x : List TShoal, vs = [(V.sl (recs eTShoal (x)) (x).length)] ∧ kLTShoal (x) := by
  unfold Typ at h
  simp only [Try.underlying23] at h
  obtain ⟨ls, rfl, h1, h2⟩ := h
  obtain ⟨l, h3, h4, h5⟩ := typ_list (enc := eTShoal) (fun vs hv => typ_TShoal_102 (n := n) hv) ls h1
  refine ⟨l, by rw [h3, h4], ?_, h5⟩
  have hb : Try.prog.bytesOf 102 = 48 := by kernel_rfl
  rw [hb, h4] at h2
  have : reachBytes = 140737488351232 := rfl
  omega
def kTRiver (x : TRiver) : Prop := kLTReach (x.Reaches) ∧ kLTShoal (x.Shoals)
theorem typ_TRiver_25 {n : Nat} {vs : List V} (h : Typ Try.prog (n + 6) 25 vs) : ∃ x : TRiver, vs = eTRiver x ∧ kTRiver x := by
  unfold Typ at h
  simp only [Try.underlying25] at h
  obtain ⟨ls, rfl, h⟩ := h
  obtain ⟨v0, v1, rfl, h0, h1⟩ := all2_2 h
  obtain ⟨x0, rfl, k0⟩ := typ_LTReach_22 (n := n + 0) h0
  obtain ⟨x1, rfl, k1⟩ := typ_LTShoal_23 (n := n + 1) h1
  exact ⟨⟨x0, x1⟩, rfl, k0, k1⟩
def kLTBounds (l : List TBounds) : Prop := l.length ≤ 140737488355328 ∧ ∀ x ∈ l, kTBounds (x)
theorem typ_LTBounds_50 {n : Nat} {vs : List V} (h : Typ Try.prog (n + 3) 50 vs) : ∃ x : List TBounds, vs = [(V.sl (recs eTBounds (x)) (x).length)] ∧ kLTBounds (x) := by
  unfold Typ at h
  simp only [Try.underlying50] at h
  obtain ⟨ls, rfl, h1, h2⟩ := h
  obtain ⟨l, h3, h4, h5⟩ := typ_list (enc := eTBounds) (fun vs hv => typ_TBounds_27 (n := n) hv) ls h1
  refine ⟨l, by rw [h3, h4], ?_, h5⟩
  have hb : Try.prog.bytesOf 27 = 16 := by kernel_rfl
  rw [hb, h4] at h2
  have : reachBytes = 140737488351232 := rfl
  omega
def kLLTBounds (l : List (List TBounds)) : Prop := l.length ≤ 140737488355328 ∧ ∀ x ∈ l, kLTBounds (x)
theorem typ_LLTBounds_32 {n : Nat} {vs : List V} (h : Typ Try.prog (n + 4) 32 vs) : ∃ x : List (List TBounds), vs = [(V.sl (recs (eS eTBounds) (x)) (x).length)] ∧ kLLTBounds (x) := by
  unfold Typ at h
  simp only [Try.underlying32] at h
  obtain ⟨ls, rfl, h1, h2⟩ := h
  obtain ⟨l, h3, h4, h5⟩ := typ_list (enc := (eS eTBounds)) (fun vs hv => typ_LTBounds_50 (n := n) hv) ls h1
  refine ⟨l, by rw [h3, h4], ?_, h5⟩
  have hb : Try.prog.bytesOf 50 = 24 := by kernel_rfl
  rw [hb, h4] at h2
  have : reachBytes = 140737488351232 := rfl
  omega
def kTthalweglaw01_Forecast (x : Tthalweglaw01_Forecast) : Prop := kTRiver (x.River) ∧ kLLTBounds (x.Sides)
theorem typ_Tthalweglaw01_Forecast_34 {n : Nat} {vs : List V} (h : Typ Try.prog (n + 7) 34 vs) : ∃ x : Tthalweglaw01_Forecast, vs = eTthalweglaw01_Forecast x ∧ kTthalweglaw01_Forecast x := by
  unfold Typ at h
  simp only [Try.underlying34] at h
  obtain ⟨ls, rfl, h⟩ := h
  obtain ⟨v0, v1, rfl, h0, h1⟩ := all2_2 h
  obtain ⟨x0, rfl, k0⟩ := typ_TRiver_25 (n := n + 0) h0
  obtain ⟨x1, rfl, k1⟩ := typ_LLTBounds_32 (n := n + 2) h1
  exact ⟨⟨x0, x1⟩, rfl, k0, k1⟩
def kTClosure (x : TClosure) : Prop := kIi64 (x.From) ∧ kIi64 (x.To) ∧ kTBounds (x.Begin) ∧ kTBounds (x.End)
theorem typ_TClosure_89 {n : Nat} {vs : List V} (h : Typ Try.prog (n + 3) 89 vs) : ∃ x : TClosure, vs = eTClosure x ∧ kTClosure x := by
  unfold Typ at h
  simp only [Try.underlying89] at h
  obtain ⟨ls, rfl, h⟩ := h
  obtain ⟨v0, v1, v2, v3, rfl, h0, h1, h2, h3⟩ := all2_4 h
  obtain ⟨x0, rfl, k0⟩ := typ_Ii64_3 (n := n + 1) h0
  obtain ⟨x1, rfl, k1⟩ := typ_Ii64_3 (n := n + 1) h1
  obtain ⟨x2, rfl, k2⟩ := typ_TBounds_27 (n := n + 0) h2
  obtain ⟨x3, rfl, k3⟩ := typ_TBounds_27 (n := n + 0) h3
  exact ⟨⟨x0, x1, x2, x3⟩, rfl, k0, k1, k2, k3⟩
def kLTClosure (l : List TClosure) : Prop := l.length ≤ 140737488355328 ∧ ∀ x ∈ l, kTClosure (x)
theorem typ_LTClosure_84 {n : Nat} {vs : List V} (h : Typ Try.prog (n + 4) 84 vs) : ∃ x : List TClosure, vs = [(V.sl (recs eTClosure (x)) (x).length)] ∧ kLTClosure (x) := by
  unfold Typ at h
  simp only [Try.underlying84] at h
  obtain ⟨ls, rfl, h1, h2⟩ := h
  obtain ⟨l, h3, h4, h5⟩ := typ_list (enc := eTClosure) (fun vs hv => typ_TClosure_89 (n := n) hv) ls h1
  refine ⟨l, by rw [h3, h4], ?_, h5⟩
  have hb : Try.prog.bytesOf 89 = 48 := by kernel_rfl
  rw [hb, h4] at h2
  have : reachBytes = 140737488351232 := rfl
  omega
def kTanon85 (x : Tanon85) : Prop := kIi64 (x.a0) ∧ kIi64 (x.a1)
theorem typ_Tanon85_85 {n : Nat} {vs : List V} (h : Typ Try.prog (n + 2) 85 vs) : ∃ x : Tanon85, vs = eTanon85 x ∧ kTanon85 x := by
  unfold Typ at h
  simp only [Try.underlying85] at h
  obtain ⟨ls, rfl, hl, h⟩ := h
  match ls, hl with
  | [v0, v1], _ =>
    obtain ⟨x0, rfl, k0⟩ := typ_Ii64_3 (n := n + 0) (h v0 (by simp))
    obtain ⟨x1, rfl, k1⟩ := typ_Ii64_3 (n := n + 0) (h v1 (by simp))
    exact ⟨⟨x0, x1⟩, rfl, k0, k1⟩
end Go.Ev
/- Tests that are decided by other tests. -/
namespace Go.Ev
theorem eqT_ne {α : Type} [BEq α] {a b : α} (h : (a == b) = true) : (a != b) = false := by rw [bne, h]; rfl
theorem eqF_ne {α : Type} [BEq α] {a b : α} (h : (a == b) = false) : (a != b) = true := by rw [bne, h]; rfl
theorem neT_eq {α : Type} [BEq α] {a b : α} (h : (a != b) = true) : (a == b) = false := by
  unfold bne at h; cases e : (a == b) with
  | true => rw [e] at h; cases h
  | false => rfl
theorem neF_eq {α : Type} [BEq α] {a b : α} (h : (a != b) = false) : (a == b) = true := by
  unfold bne at h; cases e : (a == b) with
  | true => rfl
  | false => rw [e] at h; cases h
end Go.Ev
/- The functions do what is said. -/
set_option linter.unusedVariables false
set_option linter.unusedSimpArgs false
namespace Go.Ev
open Go.Proofs
set_option maxHeartbeats 1000000
set_option maxRecDepth 100000
theorem mix : Try.prog.follows .mixedOrders = true := by kernel_rfl
@[reducible] noncomputable def c_thalweglaw01_large : Con := conF F_thalweglaw01_large (fun x => match x with | (a0) => [(V.agg (eTthalweglaw01_Forecast a0))]) (fun r => (V.v (.bool (r))))
theorem h_thalweglaw01_large : Has Try.prog 16 c_thalweglaw01_large := by
  refine hasF ctx_nil mix Try.func16 rfl (by kernel_rfl) ?_
  rintro a0 r hF
  refine ⟨of_decide_eq_true rfl, ?_⟩
  refine st1 ?_
  rcases e_bif hF with ⟨hb, hF⟩ | ⟨hb, hF⟩ <;> rw [hb]
  · refine st1 ?_
    have hq : some _ = some _ := hF
    cases hq
    exact en1
  · refine st1 ?_
    rcases e_bif hF with ⟨hb, hF⟩ | ⟨hb, hF⟩ <;> rw [hb]
    · refine st1 ?_
      have hq : some _ = some _ := hF
      cases hq
      exact en1
    · refine st1 ?_
      rcases e_bif hF with ⟨hb, hF⟩ | ⟨hb, hF⟩ <;> rw [hb]
      · refine st1 ?_
        have hq : some _ = some _ := hF
        cases hq
        exact en1
      · refine st1 ?_
        refine st_loopF (e_assoc hF) () [(0, _)] ⟨sT, sS, by rfl, by rfl⟩ ?_
        · rintro n _ _ x hx1 hF
          (conv => arg 7; whnf); (conv => arg 8; whnf); (conv => arg 9; whnf)
          refine st1 ?_
          rcases e_bif hF with ⟨hb, hF⟩ | ⟨hb, hF⟩ <;> rw [hb]
          · refine st1 ?_
            obtain ⟨_, h, hF⟩ := e_bind hF
            (first | refine o_ia (enc := eTReach) (s := 9) h (fun _ => rfl) (by decide) ?_ | refine o_iaT (enc := eTReach) (s := 9) h (fun _ => rfl) (by decide) ?_)
            intro _
            refine st1 ?_
            rcases e_bif hF with ⟨hb, hF⟩ | ⟨hb, hF⟩ <;> rw [hb]
            · refine st1 ?_
              have hF := e_some hF
              have hq : some _ = some _ := hF
              cases hq
              exact en1
            · refine st1 ?_
              exact k_loopF (e_some hF) hx1 () [(0, _)] ⟨sT, sS, by rfl, by rfl⟩
          · refine st1 ?_
            have hF := e_some hF
            refine st_loopF (e_assoc hF) () [(0, _)] ⟨sT, sS, by rfl, by rfl⟩ ?_
            · rintro n _ _ x hx1 hF
              (conv => arg 7; whnf); (conv => arg 8; whnf); (conv => arg 9; whnf)
              refine st1 ?_
              rcases e_bif hF with ⟨hb, hF⟩ | ⟨hb, hF⟩ <;> rw [hb]
              · refine st1 ?_
                obtain ⟨_, h, hF⟩ := e_bind hF
                (first | refine o_ia (enc := (eS eTBounds)) (s := 1) h (fun _ => rfl) (by decide) ?_ | refine o_iaT (enc := (eS eTBounds)) (s := 1) h (fun _ => rfl) (by decide) ?_)
                intro _
                refine st1 ?_
                rcases e_bif hF with ⟨hb, hF⟩ | ⟨hb, hF⟩ <;> rw [hb]
                · refine st1 ?_
                  have hF := e_some hF
                  have hq : some _ = some _ := hF
                  cases hq
                  exact en1
                · refine st1 ?_
                  exact k_loopF (e_some hF) hx1 () [(0, _)] ⟨sT, sS, by rfl, by rfl⟩
              · refine st1 ?_
                have hF := e_some hF
                have hq : some _ = some _ := hF
                cases hq
                exact en1


@[reducible] noncomputable def c_thalweglaw01_copied : Con := conF F_thalweglaw01_copied (fun x => match x with | (a0) => [(V.agg (eTRiver a0))]) (fun r => (V.agg (eTRiver r)))
theorem h_thalweglaw01_copied : Has Try.prog 18 c_thalweglaw01_copied := by
  refine hasF ctx_nil mix Try.func18 rfl (by kernel_rfl) ?_
  rintro a0 r hF
  refine ⟨of_decide_eq_true rfl, ?_⟩
  refine st1 ?_
  refine st_loopF (e_assoc hF) () [(0, _), (1, _), (2, _)] ⟨sT, sS, by rfl, by rfl⟩ ?_
  · rintro n ⟨_, _⟩ _ x hx1 hF
    (conv => arg 7; whnf); (conv => arg 8; whnf); (conv => arg 9; whnf)
    refine st1 ?_
    rcases e_bif hF with ⟨hb, hF⟩ | ⟨hb, hF⟩ <;> rw [hb]
    · refine st1 ?_
      obtain ⟨_, h, hF⟩ := e_bind hF
      (first | refine o_ia (enc := eTReach) (s := 9) h (fun _ => rfl) (by decide) ?_ | refine o_iaT (enc := eTReach) (s := 9) h (fun _ => rfl) (by decide) ?_)
      intro _
      refine st1 ?_
      obtain ⟨_, h, hF⟩ := e_bind hF
      (first | refine o_app (enc := eTRateRow) (s := 2) h (fun _ => rfl) ?_ | refine o_appT (enc := eTRateRow) (s := 2) h (fun _ => rfl) ?_)
      refine st1 ?_
      obtain ⟨_, h, hF⟩ := e_bind hF
      (first | refine o_app (enc := eTReach) (s := 9) h (fun _ => rfl) ?_ | refine o_appT (enc := eTReach) (s := 9) h (fun _ => rfl) ?_)
      refine st1 ?_
      exact k_loopF (e_some hF) hx1 () [(0, _), (1, _), (2, _)] ⟨sT, sS, by rfl, by rfl⟩
    · refine st1 ?_
      have hF := e_some hF
      obtain ⟨_, h, hF⟩ := e_bind hF
      (first | refine o_app (enc := eTShoal) (s := 6) h (fun _ => rfl) ?_ | refine o_appT (enc := eTShoal) (s := 6) h (fun _ => rfl) ?_)
      refine st1 ?_
      have hq : some _ = some _ := hF
      cases hq
      exact en1


@[reducible] noncomputable def c_thalweglaw01_forecast : Con := conF F_thalweglaw01_forecast (fun x => match x with | (a0) => [(V.sl (recs (eS eTBounds) (a0)) (a0).length)]) (fun r => (V.sl (recs (eS eTBounds) (r)) (r).length))
theorem h_thalweglaw01_forecast : Has Try.prog 30 c_thalweglaw01_forecast := by
  refine hasF ctx_nil mix Try.func30 rfl (by kernel_rfl) ?_
  rintro a0 r hF
  refine ⟨of_decide_eq_true rfl, ?_⟩
  refine st1 ?_
  refine st_loopF (e_assoc hF) () [(1, _)] ⟨sT, sS, by rfl, by rfl⟩ ?_
  · rintro n ⟨_, _⟩ _ x hx1 hF
    (conv => arg 7; whnf); (conv => arg 8; whnf); (conv => arg 9; whnf)
    refine st1 ?_
    rcases e_bif hF with ⟨hb, hF⟩ | ⟨hb, hF⟩ <;> rw [hb]
    · refine st1 ?_
      obtain ⟨_, h, hF⟩ := e_bind hF
      (first | refine o_ia (enc := (eS eTBounds)) (s := 1) h (fun _ => rfl) (by decide) ?_ | refine o_iaT (enc := (eS eTBounds)) (s := 1) h (fun _ => rfl) (by decide) ?_)
      intro _
      refine st1 ?_
      obtain ⟨_, h, hF⟩ := e_bind hF
      (first | refine o_app (enc := eTBounds) (s := 2) h (fun _ => rfl) ?_ | refine o_appT (enc := eTBounds) (s := 2) h (fun _ => rfl) ?_)
      refine st1 ?_
      obtain ⟨_, h, hF⟩ := e_bind hF
      (first | refine o_app (enc := (eS eTBounds)) (s := 1) h (fun _ => rfl) ?_ | refine o_appT (enc := (eS eTBounds)) (s := 1) h (fun _ => rfl) ?_)
      refine st1 ?_
      exact k_loopF (e_some hF) hx1 () [(1, _)] ⟨sT, sS, by rfl, by rfl⟩
    · refine st1 ?_
      have hF := e_some hF
      have hq : some _ = some _ := hF
      cases hq
      exact en1


@[reducible] noncomputable def c_thalwegref01_In : Con := conF F_thalwegref01_In (fun x => match x with | (a0, a1, a2) => [(V.v (.int .i64 (a0))), (V.v (.int .i64 (a1))), (V.v (.int .i64 (a2)))]) (fun r => (V.v (.bool (r))))
theorem h_thalwegref01_In : Has Try.prog 37 c_thalwegref01_In := by
  refine hasF ctx_nil mix Try.func37 rfl (by kernel_rfl) ?_
  rintro ⟨a0, a1, a2⟩ r hF
  refine ⟨of_decide_eq_true rfl, ?_⟩
  refine st1 ?_
  rcases e_bif hF with ⟨hb, hF⟩ | ⟨hb, hF⟩ <;> rw [hb]
  · refine st1 ?_
    have hq : some _ = some _ := hF
    cases hq
    exact en1
  · refine st1 ?_
    have hq : some _ = some _ := hF
    cases hq
    exact en1


@[reducible] noncomputable def c_thalwegref01_Valid : Con := conF F_thalwegref01_Valid (fun x => match x with | (a0, a1, a2) => [(V.agg (eTBounds a0)), (V.v (.int .i64 (a1))), (V.v (.int .i64 (a2)))]) (fun r => (V.v (.bool (r))))
theorem h_thalwegref01_Valid : Has Try.prog 24 c_thalwegref01_Valid := by
  refine hasF (ctx_cons h_thalwegref01_In ctx_nil) mix Try.func24 rfl (by kernel_rfl) ?_
  rintro ⟨a0, a1, a2⟩ r hF
  refine ⟨of_decide_eq_true rfl, ?_⟩
  refine st1 ?_
  obtain ⟨_, h, hF⟩ := e_bind hF
  (first | refine g_call h lv1 ?_ | refine g_callT h lv1 ?_)
  (conv => arg 1; whnf)
  refine st1 ?_
  rcases e_bif hF with ⟨hb, hF⟩ | ⟨hb, hF⟩ <;> rw [hb]
  · refine st1 ?_
    obtain ⟨_, h, hF⟩ := e_bind hF
    (first | refine g_call h lv1 ?_ | refine g_callT h lv1 ?_)
    (conv => arg 1; whnf)
    refine st1 ?_
    have hq : some _ = some _ := hF
    cases hq
    exact en1
  · refine st1 ?_
    have hq : some _ = some _ := hF
    cases hq
    exact en1


@[reducible] noncomputable def c_thalwegref01_Reach : Con := conF F_thalwegref01_Reach (fun x => match x with | (a0) => [(V.agg (eTReach a0))]) (fun r => (V.v (.bool (r))))
theorem h_thalwegref01_Reach : Has Try.prog 23 c_thalwegref01_Reach := by
  refine hasF (ctx_cons h_thalwegref01_In (ctx_cons h_thalwegref01_Valid ctx_nil)) mix Try.func23 rfl (by kernel_rfl) ?_
  rintro a0 r hF
  refine ⟨of_decide_eq_true rfl, ?_⟩
  refine st1 ?_
  obtain ⟨_, h, hF⟩ := e_bind hF
  (first | refine g_call h lv1 ?_ | refine g_callT h lv1 ?_)
  (conv => arg 1; whnf)
  refine st1 ?_
  rcases e_bif hF with ⟨hb, hF⟩ | ⟨hb, hF⟩ <;> rw [hb]
  · refine st1 ?_
    have hq : some _ = some _ := hF
    cases hq
    exact en1
  · refine st1 ?_
    obtain ⟨_, h, hF⟩ := e_bind hF
    (first | refine g_call h lv1 ?_ | refine g_callT h lv1 ?_)
    (conv => arg 1; whnf)
    refine st1 ?_
    rcases e_bif hF with ⟨hb, hF⟩ | ⟨hb, hF⟩ <;> rw [hb]
    · refine st1 ?_
      have hq : some _ = some _ := hF
      cases hq
      exact en1
    · refine st1 ?_
      obtain ⟨_, h, hF⟩ := e_bind hF
      (first | refine g_call h lv1 ?_ | refine g_callT h lv1 ?_)
      (conv => arg 1; whnf)
      refine st1 ?_
      rcases e_bif hF with ⟨hb, hF⟩ | ⟨hb, hF⟩ <;> rw [hb]
      · refine st1 ?_
        have hq : some _ = some _ := hF
        cases hq
        exact en1
      · refine st1 ?_
        obtain ⟨_, h, hF⟩ := e_bind hF
        (first | refine g_call h lv1 ?_ | refine g_callT h lv1 ?_)
        (conv => arg 1; whnf)
        refine st1 ?_
        rcases e_bif hF with ⟨hb, hF⟩ | ⟨hb, hF⟩ <;> rw [hb]
        · refine st1 ?_
          have hq : some _ = some _ := hF
          cases hq
          exact en1
        · refine st1 ?_
          obtain ⟨_, h, hF⟩ := e_bind hF
          (first | refine g_call h lv1 ?_ | refine g_callT h lv1 ?_)
          (conv => arg 1; whnf)
          refine st1 ?_
          rcases e_bif hF with ⟨hb, hF⟩ | ⟨hb, hF⟩ <;> rw [hb]
          · refine st1 ?_
            have hq : some _ = some _ := hF
            cases hq
            exact en1
          · refine st1 ?_
            obtain ⟨_, h, hF⟩ := e_bind hF
            (first | refine g_call h lv1 ?_ | refine g_callT h lv1 ?_)
            (conv => arg 1; whnf)
            refine st1 ?_
            rcases e_bif hF with ⟨hb, hF⟩ | ⟨hb, hF⟩ <;> rw [hb]
            · refine st1 ?_
              have hq : some _ = some _ := hF
              cases hq
              exact en1
            · refine st1 ?_
              obtain ⟨_, h, hF⟩ := e_bind hF
              (first | refine g_call h lv1 ?_ | refine g_callT h lv1 ?_)
              (conv => arg 1; whnf)
              refine st1 ?_
              rcases e_bif hF with ⟨hb, hF⟩ | ⟨hb, hF⟩ <;> rw [hb]
              · refine st1 ?_
                have hq : some _ = some _ := hF
                cases hq
                exact en1
              · refine st1 ?_
                refine st_loopF (e_assoc hF) () [(0, _)] ⟨sT, sS, by rfl, by rfl⟩ ?_
                · rintro n _ _ x hx1 hF
                  (conv => arg 7; whnf); (conv => arg 8; whnf); (conv => arg 9; whnf)
                  refine st1 ?_
                  rcases e_bif hF with ⟨hb, hF⟩ | ⟨hb, hF⟩ <;> rw [hb]
                  · refine st1 ?_
                    obtain ⟨_, h, hF⟩ := e_bind hF
                    (first | refine o_ia (enc := eTRateRow) (s := 2) h (fun _ => rfl) (by decide) ?_ | refine o_iaT (enc := eTRateRow) (s := 2) h (fun _ => rfl) (by decide) ?_)
                    intro _
                    refine st1 ?_
                    obtain ⟨_, h, hF⟩ := e_bind hF
                    (first | refine g_call h lv1 ?_ | refine g_callT h lv1 ?_)
                    (conv => arg 1; whnf)
                    refine st1 ?_
                    rcases e_bif hF with ⟨hb, hF⟩ | ⟨hb, hF⟩ <;> rw [hb]
                    · refine st1 ?_
                      have hF := e_some hF
                      have hq : some _ = some _ := hF
                      cases hq
                      exact en1
                    · refine st1 ?_
                      obtain ⟨_, h, hF⟩ := e_bind hF
                      (first | refine o_ia (enc := eTRateRow) (s := 2) h (fun _ => rfl) (by decide) ?_ | refine o_iaT (enc := eTRateRow) (s := 2) h (fun _ => rfl) (by decide) ?_)
                      intro _
                      refine st1 ?_
                      obtain ⟨_, h, hF⟩ := e_bind hF
                      (first | refine g_call h lv1 ?_ | refine g_callT h lv1 ?_)
                      (conv => arg 1; whnf)
                      refine st1 ?_
                      rcases e_bif hF with ⟨hb, hF⟩ | ⟨hb, hF⟩ <;> rw [hb]
                      · refine st1 ?_
                        have hF := e_some hF
                        have hq : some _ = some _ := hF
                        cases hq
                        exact en1
                      · refine st1 ?_
                        rcases e_bif hF with ⟨hb, hF⟩ | ⟨hb, hF⟩ <;> rw [hb]
                        · refine st1 ?_
                          obtain ⟨_, h, hF⟩ := e_bind hF
                          (first | refine o_ia (enc := eTRateRow) (s := 2) h (fun _ => rfl) (by decide) ?_ | refine o_iaT (enc := eTRateRow) (s := 2) h (fun _ => rfl) (by decide) ?_)
                          intro _
                          refine st1 ?_
                          obtain ⟨_, h, hF⟩ := e_bind hF
                          (first | refine o_ia (enc := eTRateRow) (s := 2) h (fun _ => rfl) (by decide) ?_ | refine o_iaT (enc := eTRateRow) (s := 2) h (fun _ => rfl) (by decide) ?_)
                          intro _
                          refine st1 ?_
                          rcases e_bif hF with ⟨hb, hF⟩ | ⟨hb, hF⟩ <;> rw [hb]
                          · refine st1 ?_
                            have hF := e_some hF
                            have hq : some _ = some _ := hF
                            cases hq
                            exact en1
                          · refine st1 ?_
                            obtain ⟨_, h, hF⟩ := e_bind hF
                            (first | refine o_ia (enc := eTRateRow) (s := 2) h (fun _ => rfl) (by decide) ?_ | refine o_iaT (enc := eTRateRow) (s := 2) h (fun _ => rfl) (by decide) ?_)
                            intro _
                            refine st1 ?_
                            obtain ⟨_, h, hF⟩ := e_bind hF
                            (first | refine o_ia (enc := eTRateRow) (s := 2) h (fun _ => rfl) (by decide) ?_ | refine o_iaT (enc := eTRateRow) (s := 2) h (fun _ => rfl) (by decide) ?_)
                            intro _
                            refine st1 ?_
                            rcases e_bif hF with ⟨hb, hF⟩ | ⟨hb, hF⟩ <;> rw [hb]
                            · refine st1 ?_
                              have hF := e_some hF
                              have hq : some _ = some _ := hF
                              cases hq
                              exact en1
                            · refine st1 ?_
                              exact k_loopF (e_some hF) hx1 () [(0, _)] ⟨sT, sS, by rfl, by rfl⟩
                        · refine st1 ?_
                          exact k_loopF (e_some hF) hx1 () [(0, _)] ⟨sT, sS, by rfl, by rfl⟩
                  · refine st1 ?_
                    have hF := e_some hF
                    have hq : some _ = some _ := hF
                    cases hq
                    exact en1


@[reducible] noncomputable def c_thalwegref01_Places : Con := conF F_thalwegref01_Places (fun x => match x with | (a0) => [(V.agg (eTRiver a0))]) (fun r => (V.v (.int .i64 (r))))
theorem h_thalwegref01_Places : Has Try.prog 41 c_thalwegref01_Places := by
  refine hasF ctx_nil mix Try.func41 rfl (by kernel_rfl) ?_
  rintro a0 r hF
  refine ⟨of_decide_eq_true rfl, ?_⟩
  refine st1 ?_
  refine st_loopF (e_assoc hF) () [(0, _)] ⟨sT, sS, by rfl, by rfl⟩ ?_
  · rintro n ⟨_, _⟩ _ x hx1 hF
    (conv => arg 7; whnf); (conv => arg 8; whnf); (conv => arg 9; whnf)
    refine st1 ?_
    rcases e_bif hF with ⟨hb, hF⟩ | ⟨hb, hF⟩ <;> rw [hb]
    · refine st1 ?_
      obtain ⟨_, h, hF⟩ := e_bind hF
      (first | refine o_ia (enc := eTReach) (s := 9) h (fun _ => rfl) (by decide) ?_ | refine o_iaT (enc := eTReach) (s := 9) h (fun _ => rfl) (by decide) ?_)
      intro _
      refine st1 ?_
      exact k_loopF (e_some hF) hx1 () [(0, _)] ⟨sT, sS, by rfl, by rfl⟩
    · refine st1 ?_
      have hF := e_some hF
      have hq : some _ = some _ := hF
      cases hq
      exact en1


@[reducible] noncomputable def c_thalwegref01_River : Con := conF F_thalwegref01_River (fun x => match x with | (a0) => [(V.agg (eTRiver a0))]) (fun r => (V.v (.bool (r))))
theorem h_thalwegref01_River : Has Try.prog 20 c_thalwegref01_River := by
  refine hasF (ctx_cons h_thalwegref01_Places (ctx_cons h_thalwegref01_In (ctx_cons h_thalwegref01_Valid (ctx_cons h_thalwegref01_Reach ctx_nil)))) mix Try.func20 rfl (by kernel_rfl) ?_
  rintro a0 r hF
  refine ⟨of_decide_eq_true rfl, ?_⟩
  refine st1 ?_
  obtain ⟨_, h, hF⟩ := e_bind hF
  (first | refine g_call h lv1 ?_ | refine g_callT h lv1 ?_)
  (conv => arg 1; whnf)
  refine st1 ?_
  rcases e_bif hF with ⟨hb, hF⟩ | ⟨hb, hF⟩ <;> rw [hb]
  · refine st1 ?_
    have hq : some _ = some _ := hF
    cases hq
    exact en1
  · refine st1 ?_
    rcases e_bif hF with ⟨hb, hF⟩ | ⟨hb, hF⟩ <;> rw [hb]
    · refine st1 ?_
      have hq : some _ = some _ := hF
      cases hq
      exact en1
    · refine st1 ?_
      refine st_loopF (e_assoc hF) () [(0, _)] ⟨sT, sS, by rfl, by rfl⟩ ?_
      · rintro n _ _ x hx1 hF
        (conv => arg 7; whnf); (conv => arg 8; whnf); (conv => arg 9; whnf)
        refine st1 ?_
        rcases e_bif hF with ⟨hb, hF⟩ | ⟨hb, hF⟩ <;> rw [hb]
        · refine st1 ?_
          obtain ⟨_, h, hF⟩ := e_bind hF
          (first | refine o_ia (enc := eTReach) (s := 9) h (fun _ => rfl) (by decide) ?_ | refine o_iaT (enc := eTReach) (s := 9) h (fun _ => rfl) (by decide) ?_)
          intro _
          refine st1 ?_
          obtain ⟨_, h, hF⟩ := e_bind hF
          (first | refine g_call h lv1 ?_ | refine g_callT h lv1 ?_)
          (conv => arg 1; whnf)
          refine st1 ?_
          rcases e_bif hF with ⟨hb, hF⟩ | ⟨hb, hF⟩ <;> rw [hb]
          · refine st1 ?_
            have hF := e_some hF
            have hq : some _ = some _ := hF
            cases hq
            exact en1
          · refine st1 ?_
            exact k_loopF (e_some hF) hx1 () [(0, _)] ⟨sT, sS, by rfl, by rfl⟩
        · refine st1 ?_
          have hF := e_some hF
          refine st_loopF (e_assoc hF) () [(0, _)] ⟨sT, sS, by rfl, by rfl⟩ ?_
          · rintro n _ _ x hx1 hF
            (conv => arg 7; whnf); (conv => arg 8; whnf); (conv => arg 9; whnf)
            refine st1 ?_
            rcases e_bif hF with ⟨hb, hF⟩ | ⟨hb, hF⟩ <;> rw [hb]
            · refine st1 ?_
              obtain ⟨_, h, hF⟩ := e_bind hF
              (first | refine o_ia (enc := eTShoal) (s := 6) h (fun _ => rfl) (by decide) ?_ | refine o_iaT (enc := eTShoal) (s := 6) h (fun _ => rfl) (by decide) ?_)
              intro _
              refine st1 ?_
              obtain ⟨_, h, hF⟩ := e_bind hF
              (first | refine g_call h lv1 ?_ | refine g_callT h lv1 ?_)
              (conv => arg 1; whnf)
              refine st1 ?_
              obtain ⟨_, h, hF⟩ := e_bind hF
              (first | refine g_call h lv1 ?_ | refine g_callT h lv1 ?_)
              (conv => arg 1; whnf)
              refine st1 ?_
              rcases e_bif hF with ⟨hb, hF⟩ | ⟨hb, hF⟩ <;> rw [hb]
              · refine st1 ?_
                have hF := e_some hF
                have hq : some _ = some _ := hF
                cases hq
                exact en1
              · refine st1 ?_
                obtain ⟨_, h, hF⟩ := e_bind hF
                (first | refine g_call h lv1 ?_ | refine g_callT h lv1 ?_)
                (conv => arg 1; whnf)
                refine st1 ?_
                rcases e_bif hF with ⟨hb, hF⟩ | ⟨hb, hF⟩ <;> rw [hb]
                · refine st1 ?_
                  have hF := e_some hF
                  have hq : some _ = some _ := hF
                  cases hq
                  exact en1
                · refine st1 ?_
                  obtain ⟨_, h, hF⟩ := e_bind hF
                  (first | refine g_call h lv1 ?_ | refine g_callT h lv1 ?_)
                  (conv => arg 1; whnf)
                  refine st1 ?_
                  rcases e_bif hF with ⟨hb, hF⟩ | ⟨hb, hF⟩ <;> rw [hb]
                  · refine st1 ?_
                    have hF := e_some hF
                    have hq : some _ = some _ := hF
                    cases hq
                    exact en1
                  · refine st1 ?_
                    obtain ⟨_, h, hF⟩ := e_bind hF
                    (first | refine g_call h lv1 ?_ | refine g_callT h lv1 ?_)
                    (conv => arg 1; whnf)
                    refine st1 ?_
                    rcases e_bif hF with ⟨hb, hF⟩ | ⟨hb, hF⟩ <;> rw [hb]
                    · refine st1 ?_
                      have hF := e_some hF
                      have hq : some _ = some _ := hF
                      cases hq
                      exact en1
                    · refine st1 ?_
                      exact k_loopF (e_some hF) hx1 () [(0, _)] ⟨sT, sS, by rfl, by rfl⟩
            · refine st1 ?_
              have hF := e_some hF
              have hq : some _ = some _ := hF
              cases hq
              exact en1


@[reducible] noncomputable def c_thalwegref01_Start : Con := conF F_thalwegref01_Start (fun x => match x with | (a0, a1) => [(V.agg (eTRiver a0)), (V.sl (recs (eS eTBounds) (a1)) (a1).length)]) (fun r => (V.v (.int .i64 (r))))
theorem h_thalwegref01_Start : Has Try.prog 34 c_thalwegref01_Start := by
  refine hasF (ctx_cons h_thalwegref01_Valid (ctx_cons h_thalwegref01_River ctx_nil)) mix Try.func34 rfl (by kernel_rfl) ?_
  rintro ⟨a0, a1⟩ r hF
  refine ⟨of_decide_eq_true rfl, ?_⟩
  refine st1 ?_
  obtain ⟨_, h, hF⟩ := e_bind hF
  (first | refine g_call h lv1 ?_ | refine g_callT h lv1 ?_)
  (conv => arg 1; whnf)
  refine st1 ?_
  rcases e_bif hF with ⟨hb, hF⟩ | ⟨hb, hF⟩ <;> rw [hb]
  · refine st1 ?_
    have hq : some _ = some _ := hF
    cases hq
    exact en1
  · refine st1 ?_
    rcases e_bif hF with ⟨hb, hF⟩ | ⟨hb, hF⟩ <;> rw [hb]
    · refine st1 ?_
      have hq : some _ = some _ := hF
      cases hq
      exact en1
    · refine st1 ?_
      obtain ⟨_, h, hF⟩ := e_bind hF
      (first | refine o_ia (enc := (eS eTBounds)) (s := 1) h (fun _ => rfl) (by decide) ?_ | refine o_iaT (enc := (eS eTBounds)) (s := 1) h (fun _ => rfl) (by decide) ?_)
      intro _
      refine st1 ?_
      rcases e_bif hF with ⟨hb, hF⟩ | ⟨hb, hF⟩ <;> rw [hb]
      · refine st1 ?_
        have hq : some _ = some _ := hF
        cases hq
        exact en1
      · refine st1 ?_
        refine st_loopF (e_assoc hF) () [] ⟨sT, sS, by rfl, by rfl⟩ ?_
        · rintro n _ _ x hx1 hF
          (conv => arg 7; whnf); (conv => arg 8; whnf); (conv => arg 9; whnf)
          refine st1 ?_
          rcases e_bif hF with ⟨hb, hF⟩ | ⟨hb, hF⟩ <;> rw [hb]
          · refine st1 ?_
            obtain ⟨_, h, hF⟩ := e_bind hF
            (first | refine o_ia (enc := (eS eTBounds)) (s := 1) h (fun _ => rfl) (by decide) ?_ | refine o_iaT (enc := (eS eTBounds)) (s := 1) h (fun _ => rfl) (by decide) ?_)
            intro _
            refine st1 ?_
            obtain ⟨_, h, hF⟩ := e_bind hF
            (first | refine o_ia (enc := (eS eTBounds)) (s := 1) h (fun _ => rfl) (by decide) ?_ | refine o_iaT (enc := (eS eTBounds)) (s := 1) h (fun _ => rfl) (by decide) ?_)
            intro _
            refine st1 ?_
            rcases e_bif hF with ⟨hb, hF⟩ | ⟨hb, hF⟩ <;> rw [hb]
            · refine st1 ?_
              have hF := e_some hF
              have hq : some _ = some _ := hF
              cases hq
              exact en1
            · refine st1 ?_
              exact k_loopF (e_some hF) hx1 () [] ⟨sT, sS, by rfl, by rfl⟩
          · refine st1 ?_
            have hF := e_some hF
            obtain ⟨_, h, hF⟩ := e_bind hF
            (first | refine o_ia (enc := (eS eTBounds)) (s := 1) h (fun _ => rfl) (by decide) ?_ | refine o_iaT (enc := (eS eTBounds)) (s := 1) h (fun _ => rfl) (by decide) ?_)
            intro _
            refine st1 ?_
            rcases e_bif hF with ⟨hb, hF⟩ | ⟨hb, hF⟩ <;> rw [hb]
            · refine st1 ?_
              have hq : some _ = some _ := hF
              cases hq
              exact en1
            · refine st1 ?_
              refine st_loopF (e_assoc hF) () [] ⟨sT, sS, by rfl, by rfl⟩ ?_
              · rintro n _ _ x hx1 hF
                (conv => arg 7; whnf); (conv => arg 8; whnf); (conv => arg 9; whnf)
                refine st1 ?_
                rcases e_bif hF with ⟨hb, hF⟩ | ⟨hb, hF⟩ <;> rw [hb]
                · refine st1 ?_
                  refine st_loopF (e_assoc hF) () [] ⟨sT, sS, by rfl, by rfl⟩ ?_
                  · rintro n _ _ x hx2 hF
                    (conv => arg 7; whnf); (conv => arg 8; whnf); (conv => arg 9; whnf)
                    refine st1 ?_
                    obtain ⟨_, h, hF⟩ := e_bind hF
                    (first | refine o_ia (enc := (eS eTBounds)) (s := 1) h (fun _ => rfl) (by decide) ?_ | refine o_iaT (enc := (eS eTBounds)) (s := 1) h (fun _ => rfl) (by decide) ?_)
                    intro _
                    refine st1 ?_
                    rcases e_bif hF with ⟨hb, hF⟩ | ⟨hb, hF⟩ <;> rw [hb]
                    · refine st1 ?_
                      obtain ⟨_, h, hF⟩ := e_bind hF
                      (first | refine o_ia (enc := (eS eTBounds)) (s := 1) h (fun _ => rfl) (by decide) ?_ | refine o_iaT (enc := (eS eTBounds)) (s := 1) h (fun _ => rfl) (by decide) ?_)
                      intro _
                      refine st1 ?_
                      obtain ⟨_, h, hF⟩ := e_bind hF
                      (first | refine o_ia (enc := eTBounds) (s := 2) h (fun _ => rfl) (by decide) ?_ | refine o_iaT (enc := eTBounds) (s := 2) h (fun _ => rfl) (by decide) ?_)
                      intro _
                      refine st1 ?_
                      obtain ⟨_, h, hF⟩ := e_bind hF
                      (first | refine g_call h lv1 ?_ | refine g_callT h lv1 ?_)
                      (conv => arg 1; whnf)
                      refine st1 ?_
                      rcases e_bif hF with ⟨hb, hF⟩ | ⟨hb, hF⟩ <;> rw [hb]
                      · refine st1 ?_
                        have hF := e_some hF
                        have hF := e_some hF
                        have hq : some _ = some _ := hF
                        cases hq
                        exact en1
                      · refine st1 ?_
                        exact k_loopF (e_some hF) hx2 () [] ⟨sT, sS, by rfl, by rfl⟩
                    · refine st1 ?_
                      have hF := e_some hF
                      exact k_loopF (e_some hF) hx1 () [] ⟨sT, sS, by rfl, by rfl⟩
                · refine st1 ?_
                  have hF := e_some hF
                  have hq : some _ = some _ := hF
                  cases hq
                  exact en1


@[reducible] noncomputable def c_numbers_Every_int (C : FuncId → Option Con) : Con := conK F_numbers_Every_int (fun x => match x with | (a0, a1, g, caps) => [(V.sl (recs (eI .i64) (a0)) (a0).length), (V.fn g caps)]) (fun x => match x with | (a0, a1, g, caps) => Callable (ext C []) g caps (fun x => match x with | (q0) => [(V.v (.int .i64 (q0)))]) (fun r => (V.v (.bool (r)))) a1) (fun r => (V.v (.bool (r))))
theorem h_numbers_Every_int {C : FuncId → Option Con} (hC : CtxOK Try.prog C) : Has Try.prog 88 (c_numbers_Every_int C) := by
  refine hasK (ext_nil hC) mix Try.func88 rfl (by kernel_rfl) ?_
  rintro ⟨a0, a1, g, caps⟩ r hcl hF
  obtain ⟨hcaps, c, hc, hce, hcall⟩ := id hcl
  refine ⟨of_decide_eq_true rfl, ?_⟩
  refine st1 ?_
  refine st_loopF (e_assoc hF) () [] ⟨sT, sS, by rfl, by rfl⟩ ?_
  · rintro n _ _ x hx1 hF
    (conv => arg 7; whnf); (conv => arg 8; whnf); (conv => arg 9; whnf)
    refine st1 ?_
    rcases e_bif hF with ⟨hb, hF⟩ | ⟨hb, hF⟩ <;> rw [hb]
    · refine st1 ?_
      obtain ⟨_, h, hF⟩ := e_bind hF
      (first | refine o_ia (enc := (eI .i64)) (s := 1) h (fun _ => rfl) (by decide) ?_ | refine o_iaT (enc := (eI .i64)) (s := 1) h (fun _ => rfl) (by decide) ?_)
      intro _
      refine st1 ?_
      obtain ⟨_, h, hF⟩ := e_bind hF
      rw [hc]
      (conv => arg 1; whnf)
      rw [hce]
      (conv => arg 1; whnf)
      (first | refine go_map hcaps rfl ?_ | refine goT_map hcaps rfl ?_)
      (conv => arg 1; whnf)
      obtain ⟨z, hz1, hz2, hz3⟩ := hcall _ _ h
      (first | refine go_exi z ⟨levs_eq hz1.symm, hz2⟩ ?_ | refine goT_exi z ⟨levs_eq hz1.symm, hz2⟩ ?_)
      rw [hz3]
      (conv => arg 1; whnf)
      refine st1 ?_
      rcases e_bif hF with ⟨hb, hF⟩ | ⟨hb, hF⟩ <;> rw [hb]
      · refine st1 ?_
        have hF := e_some hF
        have hq : some _ = some _ := hF
        cases hq
        exact en1
      · refine st1 ?_
        exact k_loopF (e_some hF) hx1 () [] ⟨sT, sS, by rfl, by rfl⟩
    · refine st1 ?_
      have hF := e_some hF
      have hq : some _ = some _ := hF
      cases hq
      exact en1


@[reducible] noncomputable def c_numbers_Within_1 : Con := conF F_numbers_Within_1 (fun x => match x with | (a0, c0, c1) => [(V.v (.int .i64 (a0))), (V.fptr [(V.v (.int .i64 (c0)))]), (V.fptr [(V.v (.int .i64 (c1)))])]) (fun r => (V.v (.bool (r))))
theorem h_numbers_Within_1 : Has Try.prog 89 c_numbers_Within_1 := by
  refine hasF ctx_nil mix Try.func89 rfl (by kernel_rfl) ?_
  rintro ⟨a0, c0, c1⟩ r hF
  refine ⟨of_decide_eq_true rfl, ?_⟩
  refine st1 ?_
  rcases e_bif hF with ⟨hb, hF⟩ | ⟨hb, hF⟩ <;> rw [hb]
  · refine st1 ?_
    have hq : some _ = some _ := hF
    cases hq
    exact en1
  · refine st1 ?_
    have hq : some _ = some _ := hF
    cases hq
    exact en1


@[reducible] noncomputable def c_numbers_Within : Con := conF F_numbers_Within (fun x => match x with | (a0, a1, a2) => [(V.v (.int .i64 (a0))), (V.v (.int .i64 (a1))), (V.sl (recs (eI .i64) (a2)) (a2).length)]) (fun r => (V.v (.bool (r))))
theorem h_numbers_Within : Has Try.prog 57 c_numbers_Within := by
  refine hasF (ctx_cons (h_numbers_Every_int (ctx_cons h_numbers_Within_1 ctx_nil)) ctx_nil) mix Try.func57 rfl (by kernel_rfl) ?_
  rintro ⟨a0, a1, a2⟩ r hF
  refine ⟨of_decide_eq_true rfl, ?_⟩
  refine st1 ?_
  obtain ⟨_, h, hF⟩ := e_bind hF
  (first | refine g_hcall h lv1 (callable_conF rfl rfl (fun _ => rfl)) ?_ | refine g_hcallT h lv1 (callable_conF rfl rfl (fun _ => rfl)) ?_)
  (conv => arg 1; whnf)
  refine st1 ?_
  have hq : some _ = some _ := hF
  cases hq
  exact en1


@[reducible] noncomputable def c_numbers_Sum : Con := conF F_numbers_Sum (fun x => match x with | (a0) => [(V.sl (recs eTBounds (a0)) (a0).length)]) (fun r => (V.agg (eTBounds r)))
theorem h_numbers_Sum : Has Try.prog 68 c_numbers_Sum := by
  refine hasF ctx_nil mix Try.func68 rfl (by kernel_rfl) ?_
  rintro a0 r hF
  refine ⟨of_decide_eq_true rfl, ?_⟩
  refine st1 ?_
  refine st_loopF (e_assoc hF) () [(0, _), (2, _)] ⟨sT, sS, by rfl, by rfl⟩ ?_
  · rintro n ⟨_, _, _⟩ _ x hx1 hF
    (conv => arg 7; whnf); (conv => arg 8; whnf); (conv => arg 9; whnf)
    refine st1 ?_
    rcases e_bif hF with ⟨hb, hF⟩ | ⟨hb, hF⟩ <;> rw [hb]
    · refine st1 ?_
      obtain ⟨_, h, hF⟩ := e_bind hF
      (first | refine o_ia (enc := eTBounds) (s := 2) h (fun _ => rfl) (by decide) ?_ | refine o_iaT (enc := eTBounds) (s := 2) h (fun _ => rfl) (by decide) ?_)
      intro _
      refine st1 ?_
      exact k_loopF (e_some hF) hx1 () [(0, _), (2, _)] ⟨sT, sS, by rfl, by rfl⟩
    · refine st1 ?_
      have hF := e_some hF
      have hq : some _ = some _ := hF
      cases hq
      exact en1


@[reducible] noncomputable def c_numbers_Every_Reach (C : FuncId → Option Con) : Con := conK F_numbers_Every_Reach (fun x => match x with | (a0, a1, g, caps) => [(V.sl (recs eTReach (a0)) (a0).length), (V.fn g caps)]) (fun x => match x with | (a0, a1, g, caps) => Callable (ext C []) g caps (fun x => match x with | (q0) => [(V.agg (eTReach q0))]) (fun r => (V.v (.bool (r)))) a1) (fun r => (V.v (.bool (r))))
theorem h_numbers_Every_Reach {C : FuncId → Option Con} (hC : CtxOK Try.prog C) : Has Try.prog 58 (c_numbers_Every_Reach C) := by
  refine hasK (ext_nil hC) mix Try.func58 rfl (by kernel_rfl) ?_
  rintro ⟨a0, a1, g, caps⟩ r hcl hF
  obtain ⟨hcaps, c, hc, hce, hcall⟩ := id hcl
  refine ⟨of_decide_eq_true rfl, ?_⟩
  refine st1 ?_
  refine st_loopF (e_assoc hF) () [] ⟨sT, sS, by rfl, by rfl⟩ ?_
  · rintro n _ _ x hx1 hF
    (conv => arg 7; whnf); (conv => arg 8; whnf); (conv => arg 9; whnf)
    refine st1 ?_
    rcases e_bif hF with ⟨hb, hF⟩ | ⟨hb, hF⟩ <;> rw [hb]
    · refine st1 ?_
      obtain ⟨_, h, hF⟩ := e_bind hF
      (first | refine o_ia (enc := eTReach) (s := 9) h (fun _ => rfl) (by decide) ?_ | refine o_iaT (enc := eTReach) (s := 9) h (fun _ => rfl) (by decide) ?_)
      intro _
      refine st1 ?_
      obtain ⟨_, h, hF⟩ := e_bind hF
      rw [hc]
      (conv => arg 1; whnf)
      rw [hce]
      (conv => arg 1; whnf)
      (first | refine go_map hcaps rfl ?_ | refine goT_map hcaps rfl ?_)
      (conv => arg 1; whnf)
      obtain ⟨z, hz1, hz2, hz3⟩ := hcall _ _ h
      (first | refine go_exi z ⟨levs_eq hz1.symm, hz2⟩ ?_ | refine goT_exi z ⟨levs_eq hz1.symm, hz2⟩ ?_)
      rw [hz3]
      (conv => arg 1; whnf)
      refine st1 ?_
      rcases e_bif hF with ⟨hb, hF⟩ | ⟨hb, hF⟩ <;> rw [hb]
      · refine st1 ?_
        have hF := e_some hF
        have hq : some _ = some _ := hF
        cases hq
        exact en1
      · refine st1 ?_
        exact k_loopF (e_some hF) hx1 () [] ⟨sT, sS, by rfl, by rfl⟩
    · refine st1 ?_
      have hF := e_some hF
      have hq : some _ = some _ := hF
      cases hq
      exact en1


@[reducible] noncomputable def c_numbers_Valid : Con := conF F_numbers_Valid (fun x => match x with | (a0, a1, a2) => [(V.agg (eTBounds a0)), (V.v (.int .i64 (a1))), (V.v (.int .i64 (a2)))]) (fun r => (V.v (.bool (r))))
theorem h_numbers_Valid : Has Try.prog 63 c_numbers_Valid := by
  refine hasF (ctx_cons h_numbers_Within ctx_nil) mix Try.func63 rfl (by kernel_rfl) ?_
  rintro ⟨a0, a1, a2⟩ r hF
  refine ⟨of_decide_eq_true rfl, ?_⟩
  refine st1 ?_
  rcases e_bif hF with ⟨hb, hF⟩ | ⟨hb, hF⟩ <;> rw [hb]
  · refine st1 ?_
    obtain ⟨_, h, hF⟩ := e_bind hF
    (first | refine g_call h lv1 ?_ | refine g_callT h lv1 ?_)
    (conv => arg 1; whnf)
    refine st1 ?_
    have hq : some _ = some _ := hF
    cases hq
    exact en1
  · refine st1 ?_
    have hq : some _ = some _ := hF
    cases hq
    exact en1


@[reducible] noncomputable def c_river_validCurve_1 : Con := conF F_river_validCurve_1 (fun x => match x with | (a0, a1) => [(V.agg (eTRateRow a0)), (V.agg (eTRateRow a1))]) (fun r => (V.v (.bool (r))))
theorem h_river_validCurve_1 : Has Try.prog 101 c_river_validCurve_1 := by
  refine hasF ctx_nil mix Try.func101 rfl (by kernel_rfl) ?_
  rintro ⟨a0, a1⟩ r hF
  refine ⟨of_decide_eq_true rfl, ?_⟩
  refine st1 ?_
  rcases e_bif hF with ⟨hb, hF⟩ | ⟨hb, hF⟩ <;> rw [hb]
  · refine st1 ?_
    have hq : some _ = some _ := hF
    cases hq
    exact en1
  · refine st1 ?_
    have hq : some _ = some _ := hF
    cases hq
    exact en1


@[reducible] noncomputable def c_numbers_Every_RateRow (C : FuncId → Option Con) : Con := conK F_numbers_Every_RateRow (fun x => match x with | (a0, a1, g, caps) => [(V.sl (recs eTRateRow (a0)) (a0).length), (V.fn g caps)]) (fun x => match x with | (a0, a1, g, caps) => Callable (ext C []) g caps (fun x => match x with | (q0) => [(V.agg (eTRateRow q0))]) (fun r => (V.v (.bool (r)))) a1) (fun r => (V.v (.bool (r))))
theorem h_numbers_Every_RateRow {C : FuncId → Option Con} (hC : CtxOK Try.prog C) : Has Try.prog 102 (c_numbers_Every_RateRow C) := by
  refine hasK (ext_nil hC) mix Try.func102 rfl (by kernel_rfl) ?_
  rintro ⟨a0, a1, g, caps⟩ r hcl hF
  obtain ⟨hcaps, c, hc, hce, hcall⟩ := id hcl
  refine ⟨of_decide_eq_true rfl, ?_⟩
  refine st1 ?_
  refine st_loopF (e_assoc hF) () [] ⟨sT, sS, by rfl, by rfl⟩ ?_
  · rintro n _ _ x hx1 hF
    (conv => arg 7; whnf); (conv => arg 8; whnf); (conv => arg 9; whnf)
    refine st1 ?_
    rcases e_bif hF with ⟨hb, hF⟩ | ⟨hb, hF⟩ <;> rw [hb]
    · refine st1 ?_
      obtain ⟨_, h, hF⟩ := e_bind hF
      (first | refine o_ia (enc := eTRateRow) (s := 2) h (fun _ => rfl) (by decide) ?_ | refine o_iaT (enc := eTRateRow) (s := 2) h (fun _ => rfl) (by decide) ?_)
      intro _
      refine st1 ?_
      obtain ⟨_, h, hF⟩ := e_bind hF
      rw [hc]
      (conv => arg 1; whnf)
      rw [hce]
      (conv => arg 1; whnf)
      (first | refine go_map hcaps rfl ?_ | refine goT_map hcaps rfl ?_)
      (conv => arg 1; whnf)
      obtain ⟨z, hz1, hz2, hz3⟩ := hcall _ _ h
      (first | refine go_exi z ⟨levs_eq hz1.symm, hz2⟩ ?_ | refine goT_exi z ⟨levs_eq hz1.symm, hz2⟩ ?_)
      rw [hz3]
      (conv => arg 1; whnf)
      refine st1 ?_
      rcases e_bif hF with ⟨hb, hF⟩ | ⟨hb, hF⟩ <;> rw [hb]
      · refine st1 ?_
        have hF := e_some hF
        have hq : some _ = some _ := hF
        cases hq
        exact en1
      · refine st1 ?_
        exact k_loopF (e_some hF) hx1 () [] ⟨sT, sS, by rfl, by rfl⟩
    · refine st1 ?_
      have hF := e_some hF
      have hq : some _ = some _ := hF
      cases hq
      exact en1


@[reducible] noncomputable def c_river_validCurve_2 : Con := conF F_river_validCurve_2 (fun x => match x with | (a0) => [(V.agg (eTRateRow a0))]) (fun r => (V.v (.bool (r))))
theorem h_river_validCurve_2 : Has Try.prog 103 c_river_validCurve_2 := by
  refine hasF (ctx_cons h_numbers_Within ctx_nil) mix Try.func103 rfl (by kernel_rfl) ?_
  rintro a0 r hF
  refine ⟨of_decide_eq_true rfl, ?_⟩
  refine st1 ?_
  obtain ⟨_, h, hF⟩ := e_bind hF
  (first | refine g_call h lv1 ?_ | refine g_callT h lv1 ?_)
  (conv => arg 1; whnf)
  refine st1 ?_
  rcases e_bif hF with ⟨hb, hF⟩ | ⟨hb, hF⟩ <;> rw [hb]
  · refine st1 ?_
    obtain ⟨_, h, hF⟩ := e_bind hF
    (first | refine g_call h lv1 ?_ | refine g_callT h lv1 ?_)
    (conv => arg 1; whnf)
    refine st1 ?_
    have hq : some _ = some _ := hF
    cases hq
    exact en1
  · refine st1 ?_
    have hq : some _ = some _ := hF
    cases hq
    exact en1


@[reducible] noncomputable def c_river_validCurve : Con := conF F_river_validCurve (fun x => match x with | (a0) => [(V.sl (recs eTRateRow (a0)) (a0).length)]) (fun r => (V.v (.bool (r))))
theorem h_river_validCurve : Has Try.prog 90 c_river_validCurve := by
  refine hasF (ctx_cons (h_numbers_Every_RateRow (ctx_cons h_river_validCurve_2 ctx_nil)) (ctx_cons h_river_validCurve_1 (ctx_cons h_numbers_Within ctx_nil))) mix Try.func90 rfl (by kernel_rfl) ?_
  rintro a0 r hF
  refine ⟨of_decide_eq_true rfl, ?_⟩
  refine st1 ?_
  obtain ⟨_, h, hF⟩ := e_bind hF
  (first | refine g_call h lv1 ?_ | refine g_callT h lv1 ?_)
  (conv => arg 1; whnf)
  refine st1 ?_
  rcases e_bif hF with ⟨hb, hF⟩ | ⟨hb, hF⟩ <;> rw [hb]
  · refine st1 ?_
    have hq : some _ = some _ := hF
    cases hq
    exact en1
  · refine st1 ?_
    refine st_loopF (e_assoc hF) () [] ⟨sT, sS, by rfl, by rfl⟩ ?_
    · rintro n _ _ x hx1 hF
      (conv => arg 7; whnf); (conv => arg 8; whnf); (conv => arg 9; whnf)
      refine st1 ?_
      rcases e_bif hF with ⟨hb, hF⟩ | ⟨hb, hF⟩ <;> rw [hb]
      · refine st1 ?_
        obtain ⟨_, h, hF⟩ := e_bind hF
        (first | refine o_ia (enc := eTRateRow) (s := 2) h (fun _ => rfl) (by decide) ?_ | refine o_iaT (enc := eTRateRow) (s := 2) h (fun _ => rfl) (by decide) ?_)
        intro _
        refine st1 ?_
        obtain ⟨_, h, hF⟩ := e_bind hF
        (first | refine o_ia (enc := eTRateRow) (s := 2) h (fun _ => rfl) (by decide) ?_ | refine o_iaT (enc := eTRateRow) (s := 2) h (fun _ => rfl) (by decide) ?_)
        intro _
        refine st1 ?_
        obtain ⟨_, h, hF⟩ := e_bind hF
        (first | refine g_call h lv1 ?_ | refine g_callT h lv1 ?_)
        (conv => arg 1; whnf)
        refine st1 ?_
        rcases e_bif hF with ⟨hb, hF⟩ | ⟨hb, hF⟩ <;> rw [hb]
        · refine st1 ?_
          have hF := e_some hF
          have hq : some _ = some _ := hF
          cases hq
          exact en1
        · refine st1 ?_
          exact k_loopF (e_some hF) hx1 () [] ⟨sT, sS, by rfl, by rfl⟩
      · refine st1 ?_
        have hF := e_some hF
        obtain ⟨_, h, hF⟩ := e_bind hF
        (first | refine g_hcall h lv1 (callable_conF rfl rfl (fun _ => rfl)) ?_ | refine g_hcallT h lv1 (callable_conF rfl rfl (fun _ => rfl)) ?_)
        (conv => arg 1; whnf)
        refine st1 ?_
        have hq : some _ = some _ := hF
        cases hq
        exact en1


@[reducible] noncomputable def c_river_validReach : Con := conF F_river_validReach (fun x => match x with | (a0) => [(V.agg (eTReach a0))]) (fun r => (V.v (.bool (r))))
theorem h_river_validReach : Has Try.prog 59 c_river_validReach := by
  refine hasF (ctx_cons h_river_validCurve (ctx_cons h_numbers_Valid (ctx_cons h_numbers_Within ctx_nil))) mix Try.func59 rfl (by kernel_rfl) ?_
  rintro a0 r hF
  refine ⟨of_decide_eq_true rfl, ?_⟩
  refine st1 ?_
  obtain ⟨_, h, hF⟩ := e_bind hF
  (first | refine g_call h lv1 ?_ | refine g_callT h lv1 ?_)
  (conv => arg 1; whnf)
  refine st1 ?_
  rcases e_bif hF with ⟨hb, hF⟩ | ⟨hb, hF⟩ <;> rw [hb]
  · refine st1 ?_
    obtain ⟨_, h, hF⟩ := e_bind hF
    (first | refine g_call h lv1 ?_ | refine g_callT h lv1 ?_)
    (conv => arg 1; whnf)
    refine st1 ?_
    rcases e_bif hF with ⟨hb, hF⟩ | ⟨hb, hF⟩ <;> rw [hb]
    · refine st1 ?_
      obtain ⟨_, h, hF⟩ := e_bind hF
      (first | refine g_call h lv1 ?_ | refine g_callT h lv1 ?_)
      (conv => arg 1; whnf)
      refine st1 ?_
      rcases e_bif hF with ⟨hb, hF⟩ | ⟨hb, hF⟩ <;> rw [hb]
      · refine st1 ?_
        obtain ⟨_, h, hF⟩ := e_bind hF
        (first | refine g_call h lv1 ?_ | refine g_callT h lv1 ?_)
        (conv => arg 1; whnf)
        refine st1 ?_
        rcases e_bif hF with ⟨hb, hF⟩ | ⟨hb, hF⟩ <;> rw [hb]
        · refine st1 ?_
          obtain ⟨_, h, hF⟩ := e_bind hF
          (first | refine g_call h lv1 ?_ | refine g_callT h lv1 ?_)
          (conv => arg 1; whnf)
          refine st1 ?_
          rcases e_bif hF with ⟨hb, hF⟩ | ⟨hb, hF⟩ <;> rw [hb]
          · refine st1 ?_
            obtain ⟨_, h, hF⟩ := e_bind hF
            (first | refine g_call h lv1 ?_ | refine g_callT h lv1 ?_)
            (conv => arg 1; whnf)
            refine st1 ?_
            have hq : some _ = some _ := hF
            cases hq
            exact en1
          · refine st1 ?_
            have hq : some _ = some _ := hF
            cases hq
            exact en1
        · refine st1 ?_
          have hq : some _ = some _ := hF
          cases hq
          exact en1
      · refine st1 ?_
        have hq : some _ = some _ := hF
        cases hq
        exact en1
    · refine st1 ?_
      have hq : some _ = some _ := hF
      cases hq
      exact en1
  · refine st1 ?_
    have hq : some _ = some _ := hF
    cases hq
    exact en1


@[reducible] noncomputable def c_numbers_Every_Shoal (C : FuncId → Option Con) : Con := conK F_numbers_Every_Shoal (fun x => match x with | (a0, a1, g, caps) => [(V.sl (recs eTShoal (a0)) (a0).length), (V.fn g caps)]) (fun x => match x with | (a0, a1, g, caps) => Callable (ext C []) g caps (fun x => match x with | (q0) => [(V.agg (eTShoal q0))]) (fun r => (V.v (.bool (r)))) a1) (fun r => (V.v (.bool (r))))
theorem h_numbers_Every_Shoal {C : FuncId → Option Con} (hC : CtxOK Try.prog C) : Has Try.prog 60 (c_numbers_Every_Shoal C) := by
  refine hasK (ext_nil hC) mix Try.func60 rfl (by kernel_rfl) ?_
  rintro ⟨a0, a1, g, caps⟩ r hcl hF
  obtain ⟨hcaps, c, hc, hce, hcall⟩ := id hcl
  refine ⟨of_decide_eq_true rfl, ?_⟩
  refine st1 ?_
  refine st_loopF (e_assoc hF) () [] ⟨sT, sS, by rfl, by rfl⟩ ?_
  · rintro n _ _ x hx1 hF
    (conv => arg 7; whnf); (conv => arg 8; whnf); (conv => arg 9; whnf)
    refine st1 ?_
    rcases e_bif hF with ⟨hb, hF⟩ | ⟨hb, hF⟩ <;> rw [hb]
    · refine st1 ?_
      obtain ⟨_, h, hF⟩ := e_bind hF
      (first | refine o_ia (enc := eTShoal) (s := 6) h (fun _ => rfl) (by decide) ?_ | refine o_iaT (enc := eTShoal) (s := 6) h (fun _ => rfl) (by decide) ?_)
      intro _
      refine st1 ?_
      obtain ⟨_, h, hF⟩ := e_bind hF
      rw [hc]
      (conv => arg 1; whnf)
      rw [hce]
      (conv => arg 1; whnf)
      (first | refine go_map hcaps rfl ?_ | refine goT_map hcaps rfl ?_)
      (conv => arg 1; whnf)
      obtain ⟨z, hz1, hz2, hz3⟩ := hcall _ _ h
      (first | refine go_exi z ⟨levs_eq hz1.symm, hz2⟩ ?_ | refine goT_exi z ⟨levs_eq hz1.symm, hz2⟩ ?_)
      rw [hz3]
      (conv => arg 1; whnf)
      refine st1 ?_
      rcases e_bif hF with ⟨hb, hF⟩ | ⟨hb, hF⟩ <;> rw [hb]
      · refine st1 ?_
        have hF := e_some hF
        have hq : some _ = some _ := hF
        cases hq
        exact en1
      · refine st1 ?_
        exact k_loopF (e_some hF) hx1 () [] ⟨sT, sS, by rfl, by rfl⟩
    · refine st1 ?_
      have hF := e_some hF
      have hq : some _ = some _ := hF
      cases hq
      exact en1


@[reducible] noncomputable def c_river_find : Con := conF F_river_find (fun x => match x with | (a0, a1) => [(V.agg (eTRiver a0)), (V.v (.int .i64 (a1)))]) (fun r => V.tup [(V.agg (eTriver_site r.1)), (V.v (.bool (r.2)))])
theorem h_river_find : Has Try.prog 77 c_river_find := by
  refine hasF ctx_nil mix Try.func77 rfl (by kernel_rfl) ?_
  rintro ⟨a0, a1⟩ r hF
  refine ⟨of_decide_eq_true rfl, ?_⟩
  refine st1 ?_
  refine st_loopF (e_assoc hF) () [(0, _), (1, _)] ⟨sT, sS, by rfl, by rfl⟩ ?_
  · rintro n ⟨_, _⟩ _ x hx1 hF
    (conv => arg 7; whnf); (conv => arg 8; whnf); (conv => arg 9; whnf)
    refine st1 ?_
    rcases e_bif hF with ⟨hb, hF⟩ | ⟨hb, hF⟩ <;> rw [hb]
    · refine st1 ?_
      obtain ⟨_, h, hF⟩ := e_bind hF
      (first | refine o_ia (enc := eTReach) (s := 9) h (fun _ => rfl) (by decide) ?_ | refine o_iaT (enc := eTReach) (s := 9) h (fun _ => rfl) (by decide) ?_)
      intro _
      refine st1 ?_
      rcases e_bif hF with ⟨hb, hF⟩ | ⟨hb, hF⟩ <;> rw [hb]
      · refine st1 ?_
        rcases e_bif hF with ⟨hb, hF⟩ | ⟨hb, hF⟩ <;> rw [hb]
        · refine st1 ?_
          have hF := e_some hF
          have hq : some _ = some _ := hF
          cases hq
          exact en1
        · refine st1 ?_
          exact k_loopF (e_some hF) hx1 () [(0, _), (1, _)] ⟨sT, sS, by rfl, by rfl⟩
      · refine st1 ?_
        exact k_loopF (e_some hF) hx1 () [(0, _), (1, _)] ⟨sT, sS, by rfl, by rfl⟩
    · refine st1 ?_
      have hF := e_some hF
      have hq : some _ = some _ := hF
      cases hq
      exact en1


@[reducible] noncomputable def c_river_validShoal : Con := conF F_river_validShoal (fun x => match x with | (a0, a1) => [(V.agg (eTRiver a0)), (V.agg (eTShoal a1))]) (fun r => (V.v (.bool (r))))
theorem h_river_validShoal : Has Try.prog 62 c_river_validShoal := by
  refine hasF (ctx_cons h_river_find (ctx_cons h_numbers_Valid (ctx_cons h_numbers_Within ctx_nil))) mix Try.func62 rfl (by kernel_rfl) ?_
  rintro ⟨a0, a1⟩ r hF
  refine ⟨of_decide_eq_true rfl, ?_⟩
  refine st1 ?_
  obtain ⟨_, h, hF⟩ := e_bind hF
  (first | refine g_call h lv1 ?_ | refine g_callT h lv1 ?_)
  (conv => arg 1; whnf)
  refine st1 ?_
  rcases e_bif hF with ⟨hb, hF⟩ | ⟨hb, hF⟩ <;> rw [hb]
  · refine st1 ?_
    obtain ⟨_, h, hF⟩ := e_bind hF
    (first | refine g_call h lv1 ?_ | refine g_callT h lv1 ?_)
    (conv => arg 1; whnf)
    refine st1 ?_
    rcases e_bif hF with ⟨hb, hF⟩ | ⟨hb, hF⟩ <;> rw [hb]
    · refine st1 ?_
      obtain ⟨_, h, hF⟩ := e_bind hF
      (first | refine g_call h lv1 ?_ | refine g_callT h lv1 ?_)
      (conv => arg 1; whnf)
      refine st1 ?_
      rcases e_bif hF with ⟨hb, hF⟩ | ⟨hb, hF⟩ <;> rw [hb]
      · refine st1 ?_
        obtain ⟨_, h, hF⟩ := e_bind hF
        (first | refine g_call h lv1 ?_ | refine g_callT h lv1 ?_)
        (conv => arg 1; whnf)
        refine st1 ?_
        have hq : some _ = some _ := hF
        cases hq
        exact en1
      · refine st1 ?_
        have hq : some _ = some _ := hF
        cases hq
        exact en1
    · refine st1 ?_
      have hq : some _ = some _ := hF
      cases hq
      exact en1
  · refine st1 ?_
    have hq : some _ = some _ := hF
    cases hq
    exact en1


@[reducible] noncomputable def c_river_Check_1 : Con := conF F_river_Check_1 (fun x => match x with | (a0, c0) => [(V.agg (eTShoal a0)), (V.fptr [(V.sl (recs eTReach (c0.Reaches)) (c0.Reaches).length), (V.sl (recs eTShoal (c0.Shoals)) (c0.Shoals).length)])]) (fun r => (V.v (.bool (r))))
theorem h_river_Check_1 : Has Try.prog 61 c_river_Check_1 := by
  refine hasF (ctx_cons h_river_validShoal ctx_nil) mix Try.func61 rfl (by kernel_rfl) ?_
  rintro ⟨a0, c0⟩ r hF
  refine ⟨of_decide_eq_true rfl, ?_⟩
  refine st1 ?_
  obtain ⟨_, h, hF⟩ := e_bind hF
  (first | refine g_call h lv1 ?_ | refine g_callT h lv1 ?_)
  (conv => arg 1; whnf)
  refine st1 ?_
  have hq : some _ = some _ := hF
  cases hq
  exact en1


@[reducible] noncomputable def c_river_Check : Con := conF F_river_Check (fun x => match x with | (a0) => [(V.agg (eTRiver a0))]) (fun r => (V.v (.int .i64 (r))))
theorem h_river_Check : Has Try.prog 19 c_river_Check := by
  refine hasF (ctx_cons (h_numbers_Every_Shoal (ctx_cons h_river_Check_1 ctx_nil)) (ctx_cons (h_numbers_Every_Reach (ctx_cons h_river_validReach ctx_nil)) (ctx_cons h_numbers_Within ctx_nil))) mix Try.func19 rfl (by kernel_rfl) ?_
  rintro a0 r hF
  refine ⟨of_decide_eq_true rfl, ?_⟩
  refine st1 ?_
  obtain ⟨_, h, hF⟩ := e_bind hF
  (first | refine g_call h lv1 ?_ | refine g_callT h lv1 ?_)
  (conv => arg 1; whnf)
  refine st1 ?_
  rcases e_bif hF with ⟨hb, hF⟩ | ⟨hb, hF⟩ <;> rw [hb]
  · refine st1 ?_
    have hq : some _ = some _ := hF
    cases hq
    exact en1
  · refine st1 ?_
    obtain ⟨_, h, hF⟩ := e_bind hF
    (first | refine g_hcall h lv1 (callable_conF rfl rfl (fun _ => rfl)) ?_ | refine g_hcallT h lv1 (callable_conF rfl rfl (fun _ => rfl)) ?_)
    (conv => arg 1; whnf)
    refine st1 ?_
    rcases e_bif hF with ⟨hb, hF⟩ | ⟨hb, hF⟩ <;> rw [hb]
    · refine st1 ?_
      have hq : some _ = some _ := hF
      cases hq
      exact en1
    · refine st1 ?_
      rcases e_bif hF with ⟨hb, hF⟩ | ⟨hb, hF⟩ <;> rw [hb]
      · refine st1 ?_
        have hq : some _ = some _ := hF
        cases hq
        exact en1
      · refine st1 ?_
        obtain ⟨_, h, hF⟩ := e_bind hF
        (first | refine g_hcall h lv1 (callable_conF rfl rfl (fun _ => rfl)) ?_ | refine g_hcallT h lv1 (callable_conF rfl rfl (fun _ => rfl)) ?_)
        (conv => arg 1; whnf)
        refine st1 ?_
        rcases e_bif hF with ⟨hb, hF⟩ | ⟨hb, hF⟩ <;> rw [hb]
        · refine st1 ?_
          have hq : some _ = some _ := hF
          cases hq
          exact en1
        · refine st1 ?_
          have hq : some _ = some _ := hF
          cases hq
          exact en1


@[reducible] noncomputable def c_numbers_Every_L_Bounds (C : FuncId → Option Con) : Con := conK F_numbers_Every_L_Bounds (fun x => match x with | (a0, a1, g, caps) => [(V.sl (recs (eS eTBounds) (a0)) (a0).length), (V.fn g caps)]) (fun x => match x with | (a0, a1, g, caps) => Callable (ext C []) g caps (fun x => match x with | (q0) => [(V.sl (recs eTBounds (q0)) (q0).length)]) (fun r => (V.v (.bool (r)))) a1) (fun r => (V.v (.bool (r))))
theorem h_numbers_Every_L_Bounds {C : FuncId → Option Con} (hC : CtxOK Try.prog C) : Has Try.prog 106 (c_numbers_Every_L_Bounds C) := by
  refine hasK (ext_nil hC) mix Try.func106 rfl (by kernel_rfl) ?_
  rintro ⟨a0, a1, g, caps⟩ r hcl hF
  obtain ⟨hcaps, c, hc, hce, hcall⟩ := id hcl
  refine ⟨of_decide_eq_true rfl, ?_⟩
  refine st1 ?_
  refine st_loopF (e_assoc hF) () [] ⟨sT, sS, by rfl, by rfl⟩ ?_
  · rintro n _ _ x hx1 hF
    (conv => arg 7; whnf); (conv => arg 8; whnf); (conv => arg 9; whnf)
    refine st1 ?_
    rcases e_bif hF with ⟨hb, hF⟩ | ⟨hb, hF⟩ <;> rw [hb]
    · refine st1 ?_
      obtain ⟨_, h, hF⟩ := e_bind hF
      (first | refine o_ia (enc := (eS eTBounds)) (s := 1) h (fun _ => rfl) (by decide) ?_ | refine o_iaT (enc := (eS eTBounds)) (s := 1) h (fun _ => rfl) (by decide) ?_)
      intro _
      refine st1 ?_
      obtain ⟨_, h, hF⟩ := e_bind hF
      rw [hc]
      (conv => arg 1; whnf)
      rw [hce]
      (conv => arg 1; whnf)
      (first | refine go_map hcaps rfl ?_ | refine goT_map hcaps rfl ?_)
      (conv => arg 1; whnf)
      obtain ⟨z, hz1, hz2, hz3⟩ := hcall _ _ h
      (first | refine go_exi z ⟨levs_eq hz1.symm, hz2⟩ ?_ | refine goT_exi z ⟨levs_eq hz1.symm, hz2⟩ ?_)
      rw [hz3]
      (conv => arg 1; whnf)
      refine st1 ?_
      rcases e_bif hF with ⟨hb, hF⟩ | ⟨hb, hF⟩ <;> rw [hb]
      · refine st1 ?_
        have hF := e_some hF
        have hq : some _ = some _ := hF
        cases hq
        exact en1
      · refine st1 ?_
        exact k_loopF (e_some hF) hx1 () [] ⟨sT, sS, by rfl, by rfl⟩
    · refine st1 ?_
      have hF := e_some hF
      have hq : some _ = some _ := hF
      cases hq
      exact en1


@[reducible] noncomputable def c_river_checkForecast_1 : Con := conF F_river_checkForecast_1 (fun x => match x with | (a0, c0) => [(V.sl (recs eTBounds (a0)) (a0).length), (V.fptr [(V.v (.int .i64 (c0)))])]) (fun r => (V.v (.bool (r))))
theorem h_river_checkForecast_1 : Has Try.prog 107 c_river_checkForecast_1 := by
  refine hasF ctx_nil mix Try.func107 rfl (by kernel_rfl) ?_
  rintro ⟨a0, c0⟩ r hF
  refine ⟨of_decide_eq_true rfl, ?_⟩
  refine st1 ?_
  have hq : some _ = some _ := hF
  cases hq
  exact en1


@[reducible] noncomputable def c_river_checkForecast_2 : Con := conF F_river_checkForecast_2 (fun x => match x with | (a0) => [(V.agg (eTBounds a0))]) (fun r => (V.v (.bool (r))))
theorem h_river_checkForecast_2 : Has Try.prog 108 c_river_checkForecast_2 := by
  refine hasF (ctx_cons h_numbers_Valid ctx_nil) mix Try.func108 rfl (by kernel_rfl) ?_
  rintro a0 r hF
  refine ⟨of_decide_eq_true rfl, ?_⟩
  refine st1 ?_
  obtain ⟨_, h, hF⟩ := e_bind hF
  (first | refine g_call h lv1 ?_ | refine g_callT h lv1 ?_)
  (conv => arg 1; whnf)
  refine st1 ?_
  have hq : some _ = some _ := hF
  cases hq
  exact en1


@[reducible] noncomputable def c_numbers_Every_Bounds (C : FuncId → Option Con) : Con := conK F_numbers_Every_Bounds (fun x => match x with | (a0, a1, g, caps) => [(V.sl (recs eTBounds (a0)) (a0).length), (V.fn g caps)]) (fun x => match x with | (a0, a1, g, caps) => Callable (ext C []) g caps (fun x => match x with | (q0) => [(V.agg (eTBounds q0))]) (fun r => (V.v (.bool (r)))) a1) (fun r => (V.v (.bool (r))))
theorem h_numbers_Every_Bounds {C : FuncId → Option Con} (hC : CtxOK Try.prog C) : Has Try.prog 110 (c_numbers_Every_Bounds C) := by
  refine hasK (ext_nil hC) mix Try.func110 rfl (by kernel_rfl) ?_
  rintro ⟨a0, a1, g, caps⟩ r hcl hF
  obtain ⟨hcaps, c, hc, hce, hcall⟩ := id hcl
  refine ⟨of_decide_eq_true rfl, ?_⟩
  refine st1 ?_
  refine st_loopF (e_assoc hF) () [] ⟨sT, sS, by rfl, by rfl⟩ ?_
  · rintro n _ _ x hx1 hF
    (conv => arg 7; whnf); (conv => arg 8; whnf); (conv => arg 9; whnf)
    refine st1 ?_
    rcases e_bif hF with ⟨hb, hF⟩ | ⟨hb, hF⟩ <;> rw [hb]
    · refine st1 ?_
      obtain ⟨_, h, hF⟩ := e_bind hF
      (first | refine o_ia (enc := eTBounds) (s := 2) h (fun _ => rfl) (by decide) ?_ | refine o_iaT (enc := eTBounds) (s := 2) h (fun _ => rfl) (by decide) ?_)
      intro _
      refine st1 ?_
      obtain ⟨_, h, hF⟩ := e_bind hF
      rw [hc]
      (conv => arg 1; whnf)
      rw [hce]
      (conv => arg 1; whnf)
      (first | refine go_map hcaps rfl ?_ | refine goT_map hcaps rfl ?_)
      (conv => arg 1; whnf)
      obtain ⟨z, hz1, hz2, hz3⟩ := hcall _ _ h
      (first | refine go_exi z ⟨levs_eq hz1.symm, hz2⟩ ?_ | refine goT_exi z ⟨levs_eq hz1.symm, hz2⟩ ?_)
      rw [hz3]
      (conv => arg 1; whnf)
      refine st1 ?_
      rcases e_bif hF with ⟨hb, hF⟩ | ⟨hb, hF⟩ <;> rw [hb]
      · refine st1 ?_
        have hF := e_some hF
        have hq : some _ = some _ := hF
        cases hq
        exact en1
      · refine st1 ?_
        exact k_loopF (e_some hF) hx1 () [] ⟨sT, sS, by rfl, by rfl⟩
    · refine st1 ?_
      have hF := e_some hF
      have hq : some _ = some _ := hF
      cases hq
      exact en1


@[reducible] noncomputable def c_river_checkForecast_3 (C : FuncId → Option Con) : Con := conK F_river_checkForecast_3 (fun x => match x with | (a0, c0, g, caps) => [(V.sl (recs eTBounds (a0)) (a0).length), (V.fptr [(V.fn g caps)])]) (fun x => match x with | (a0, c0, g, caps) => Callable (ext C []) g caps (fun x => match x with | (q0) => [(V.agg (eTBounds q0))]) (fun r => (V.v (.bool (r)))) c0 ∧ Callable (ext C [(110, c_numbers_Every_Bounds C)]) g caps (fun x => match x with | (q0) => [(V.agg (eTBounds q0))]) (fun r => (V.v (.bool (r)))) c0) (fun r => (V.v (.bool (r))))
theorem h_river_checkForecast_3 {C : FuncId → Option Con} (hC : CtxOK Try.prog C) : Has Try.prog 109 (c_river_checkForecast_3 C) := by
  refine hasK (ext_cons (h_numbers_Every_Bounds hC) (ext_nil hC)) mix Try.func109 rfl (by kernel_rfl) ?_
  rintro ⟨a0, c0, g, caps⟩ r ⟨hc0, hcl⟩ hF
  obtain ⟨hcaps, c, hc, hce, hcall⟩ := id hcl
  refine ⟨of_decide_eq_true rfl, ?_⟩
  refine st1 ?_
  obtain ⟨_, h, hF⟩ := e_bind hF
  (first | refine go_map hcaps rfl ?_ | refine goT_map hcaps rfl ?_)
  (conv => arg 1; whnf)
  (first | refine g_hcall h lv1 (by exact hc0) ?_ | refine g_hcallT h lv1 (by exact hc0) ?_)
  (conv => arg 1; whnf)
  refine st1 ?_
  have hq : some _ = some _ := hF
  cases hq
  exact en1


@[reducible] noncomputable def c_river_checkForecast : Con := conF F_river_checkForecast (fun x => match x with | (a0, a1) => [(V.agg (eTRiver a0)), (V.sl (recs (eS eTBounds) (a1)) (a1).length)]) (fun r => (V.v (.int .i64 (r))))
theorem h_river_checkForecast : Has Try.prog 94 c_river_checkForecast := by
  refine hasF (ctx_cons (h_numbers_Every_L_Bounds (ctx_cons (h_river_checkForecast_3 (ctx_cons h_river_checkForecast_2 ctx_nil)) (ctx_cons h_river_checkForecast_1 ctx_nil))) ctx_nil) mix Try.func94 rfl (by kernel_rfl) ?_
  rintro ⟨a0, a1⟩ r hF
  refine ⟨of_decide_eq_true rfl, ?_⟩
  refine st1 ?_
  rcases e_bif hF with ⟨hb, hF⟩ | ⟨hb, hF⟩ <;> rw [hb]
  · refine st1 ?_
    have hq : some _ = some _ := hF
    cases hq
    exact en1
  · refine st1 ?_
    obtain ⟨_, h, hF⟩ := e_bind hF
    (first | refine o_ia (enc := (eS eTBounds)) (s := 1) h (fun _ => rfl) (by decide) ?_ | refine o_iaT (enc := (eS eTBounds)) (s := 1) h (fun _ => rfl) (by decide) ?_)
    intro _
    refine st1 ?_
    rcases e_bif hF with ⟨hb, hF⟩ | ⟨hb, hF⟩ <;> rw [hb]
    · refine st1 ?_
      have hq : some _ = some _ := hF
      cases hq
      exact en1
    · refine st1 ?_
      obtain ⟨_, h, hF⟩ := e_bind hF
      (first | refine g_hcall h lv1 (callable_conF rfl rfl (fun _ => rfl)) ?_ | refine g_hcallT h lv1 (callable_conF rfl rfl (fun _ => rfl)) ?_)
      (conv => arg 1; whnf)
      refine st1 ?_
      rcases e_bif hF with ⟨hb, hF⟩ | ⟨hb, hF⟩ <;> rw [hb]
      · refine st1 ?_
        have hq : some _ = some _ := hF
        cases hq
        exact en1
      · refine st1 ?_
        rcases e_bif hF with ⟨hb, hF⟩ | ⟨hb, hF⟩ <;> rw [hb]
        · refine st1 ?_
          have hq : some _ = some _ := hF
          cases hq
          exact en1
        · refine st1 ?_
          obtain ⟨_, h, hF⟩ := e_bind hF
          (first | refine g_hcall h lv1 (callable_conK rfl rfl (fun _ => rfl) (fun _ => ⟨callable_conF rfl rfl (fun _ => rfl), callable_conF rfl rfl (fun _ => rfl)⟩)) ?_ | refine g_hcallT h lv1 (callable_conK rfl rfl (fun _ => rfl) (fun _ => ⟨callable_conF rfl rfl (fun _ => rfl), callable_conF rfl rfl (fun _ => rfl)⟩)) ?_)
          (conv => arg 1; whnf)
          refine st1 ?_
          rcases e_bif hF with ⟨hb, hF⟩ | ⟨hb, hF⟩ <;> rw [hb]
          · refine st1 ?_
            have hq : some _ = some _ := hF
            cases hq
            exact en1
          · refine st1 ?_
            have hq : some _ = some _ := hF
            cases hq
            exact en1


@[reducible] noncomputable def c_river_stream_inflow : Con := conF F_river_stream_inflow (fun x => match x with | (a0, a1, a2) => [(V.agg (eTriver_stream a0)), (V.v (.int .i64 (a1))), (V.v (.int .i64 (a2)))]) (fun r => (V.agg (eTBounds r)))
theorem h_river_stream_inflow : Has Try.prog 95 c_river_stream_inflow := by
  refine hasF ctx_nil mix Try.func95 rfl (by kernel_rfl) ?_
  rintro ⟨a0, a1, a2⟩ r hF
  refine ⟨of_decide_eq_true rfl, ?_⟩
  refine st1 ?_
  rcases e_bif hF with ⟨hb, hF⟩ | ⟨hb, hF⟩ <;> rw [hb]
  · refine st1 ?_
    have hq : some _ = some _ := hF
    cases hq
    exact en1
  · refine st1 ?_
    obtain ⟨_, h, hF⟩ := e_bind hF
    (first | refine o_ia (enc := eTReach) (s := 9) h (fun _ => rfl) (by decide) ?_ | refine o_iaT (enc := eTReach) (s := 9) h (fun _ => rfl) (by decide) ?_)
    intro _
    refine st1 ?_
    rcases e_bif hF with ⟨hb, hF⟩ | ⟨hb, hF⟩ <;> rw [hb]
    · refine st1 ?_
      have hq : some _ = some _ := hF
      cases hq
      exact en1
    · refine st1 ?_
      obtain ⟨_, h, hF⟩ := e_bind hF
      (first | refine o_ia (enc := (eS eTBounds)) (s := 1) h (fun _ => rfl) (by decide) ?_ | refine o_iaT (enc := (eS eTBounds)) (s := 1) h (fun _ => rfl) (by decide) ?_)
      intro _
      refine st1 ?_
      obtain ⟨_, h, hF⟩ := e_bind hF
      (first | refine o_ia (enc := eTBounds) (s := 2) h (fun _ => rfl) (by decide) ?_ | refine o_iaT (enc := eTBounds) (s := 2) h (fun _ => rfl) (by decide) ?_)
      intro _
      refine st1 ?_
      have hq : some _ = some _ := hF
      cases hq
      exact en1


@[reducible] noncomputable def c_river_run : Con := conF F_river_run (fun x => match x with | (a0, a1) => [(V.agg (eTRiver a0)), (V.sl (recs (eS eTBounds) (a1)) (a1).length)]) (fun r => V.tup [(V.agg (eTriver_stream r.1)), (V.v (.int .i64 (r.2)))])
theorem h_river_run : Has Try.prog 74 c_river_run := by
  refine hasF (ctx_cons h_river_stream_inflow (ctx_cons h_river_checkForecast (ctx_cons h_numbers_Sum (ctx_cons h_river_Check ctx_nil)))) mix Try.func74 rfl (by kernel_rfl) ?_
  rintro ⟨a0, a1⟩ r hF
  refine ⟨of_decide_eq_true rfl, ?_⟩
  refine st1 ?_
  obtain ⟨_, h, hF⟩ := e_bind hF
  (first | refine g_call h lv1 ?_ | refine g_callT h lv1 ?_)
  (conv => arg 1; whnf)
  refine st1 ?_
  rcases e_bif hF with ⟨hb, hF⟩ | ⟨hb, hF⟩ <;> rw [hb]
  · refine st1 ?_
    have hq : some _ = some _ := hF
    cases hq
    exact en1
  · refine st1 ?_
    obtain ⟨_, h, hF⟩ := e_bind hF
    (first | refine g_call h lv1 ?_ | refine g_callT h lv1 ?_)
    (conv => arg 1; whnf)
    refine st1 ?_
    rcases e_bif hF with ⟨hb, hF⟩ | ⟨hb, hF⟩ <;> rw [hb]
    · refine st1 ?_
      have hq : some _ = some _ := hF
      cases hq
      exact en1
    · refine st1 ?_
      refine st_loopF (e_assoc hF) 0 [(1, _), (16, _)] ⟨sT, sS, by rfl, by rfl⟩ ?_
      · rintro n ⟨_, _⟩ _ x hx1 hF
        (conv => arg 7; whnf); (conv => arg 8; whnf); (conv => arg 9; whnf)
        refine st1 ?_
        rcases e_bif hF with ⟨hb, hF⟩ | ⟨hb, hF⟩ <;> rw [hb]
        · refine st1 ?_
          obtain ⟨_, h, hF⟩ := e_bind hF
          (first | refine o_ia (enc := (eS eTBounds)) (s := 1) h (fun _ => rfl) (by decide) ?_ | refine o_iaT (enc := (eS eTBounds)) (s := 1) h (fun _ => rfl) (by decide) ?_)
          intro _
          refine st1 ?_
          obtain ⟨_, h, hF⟩ := e_bind hF
          (first | refine o_mk (enc := eTBounds) (s := 2) h (by decide) rfl ?_ | refine o_mkT (enc := eTBounds) (s := 2) h (by decide) rfl ?_)
          refine st1 ?_
          refine st_loopF (e_assoc hF) _ [(1, _), (16, _), (17, _), (26, _)] ⟨sT, sS, by rfl, by rfl⟩ ?_
          · rintro n ⟨_, _⟩ _ x hx2 hF
            (conv => arg 7; whnf); (conv => arg 8; whnf); (conv => arg 9; whnf)
            refine st1 ?_
            rcases e_bif hF with ⟨hb, hF⟩ | ⟨hb, hF⟩ <;> rw [hb]
            · refine st1 ?_
              obtain ⟨_, h, hF⟩ := e_bind hF
              (first | refine o_ia (enc := eTBounds) (s := 2) h (fun _ => rfl) (by decide) ?_ | refine o_iaT (enc := eTBounds) (s := 2) h (fun _ => rfl) (by decide) ?_)
              intro _
              refine st1 ?_
              obtain ⟨_, h, hF⟩ := e_bind hF
              (first | refine g_call h lv1 ?_ | refine g_callT h lv1 ?_)
              (conv => arg 1; whnf)
              refine st1 ?_
              obtain ⟨_, h, hF⟩ := e_bind hF
              (first | refine g_call h lv1 ?_ | refine g_callT h lv1 ?_)
              (conv => arg 1; whnf)
              refine st1 ?_
              obtain ⟨_, hi37, hF⟩ := e_bind hF
              (first | refine go_req (oidx_ok hi37 (by decide)) ?_ | refine goT_req (oidx_ok hi37 (by decide)) ?_)
              (conv => arg 1; whnf)
              refine st1 ?_
              obtain ⟨_, h, hF⟩ := e_bind hF
              (first | refine o_stA (enc := eTBounds) (s := 2) hi37 h (fun _ => rfl) (by decide) rfl rfl ?_ | refine o_stB (enc := eTBounds) (s := 2) hi37 h (fun _ => rfl) (by decide) rfl rfl ?_ | refine o_stAT (enc := eTBounds) (s := 2) hi37 h (fun _ => rfl) (by decide) rfl rfl ?_)
              refine st1 ?_
              exact k_loopF (e_some hF) hx2 _ [(1, _), (16, _), (17, _), (26, _)] ⟨sT, sS, by rfl, by rfl⟩
            · refine st1 ?_
              have hF := e_some hF
              obtain ⟨_, h, hF⟩ := e_bind hF
              (first | refine o_app (enc := (eS eTBounds)) (s := 1) h (fun _ => rfl) ?_ | refine o_appT (enc := (eS eTBounds)) (s := 1) h (fun _ => rfl) ?_)
              refine st1 ?_
              exact k_loopF (e_some hF) hx1 _ [(1, _), (16, _), (17, _)] ⟨sT, sS, by rfl, by rfl⟩
        · refine st1 ?_
          have hF := e_some hF
          have hq : some _ = some _ := hF
          cases hq
          exact en1


@[reducible] noncomputable def c_river_stream_hours : Con := conF F_river_stream_hours (fun x => match x with | (a0) => [(V.agg (eTriver_stream a0))]) (fun r => (V.v (.int .i64 (r))))
theorem h_river_stream_hours : Has Try.prog 75 c_river_stream_hours := by
  refine hasF ctx_nil mix Try.func75 rfl (by kernel_rfl) ?_
  rintro a0 r hF
  refine ⟨of_decide_eq_true rfl, ?_⟩
  refine st1 ?_
  obtain ⟨_, h, hF⟩ := e_bind hF
  (first | refine o_ia (enc := (eS eTBounds)) (s := 1) h (fun _ => rfl) (by decide) ?_ | refine o_iaT (enc := (eS eTBounds)) (s := 1) h (fun _ => rfl) (by decide) ?_)
  intro _
  refine st1 ?_
  have hq : some _ = some _ := hF
  cases hq
  exact en1


@[reducible] noncomputable def c_river_Volume : Con := conF F_river_Volume (fun x => match x with | (a0, a1, a2, a3, a4) => [(V.agg (eTRiver a0)), (V.sl (recs (eS eTBounds) (a1)) (a1).length), (V.v (.int .i64 (a2))), (V.v (.int .i64 (a3))), (V.v (.int .i64 (a4)))]) (fun r => V.tup [(V.agg (eTBounds r.1)), (V.v (.int .i64 (r.2)))])
theorem h_river_Volume : Has Try.prog 36 c_river_Volume := by
  refine hasF (ctx_cons h_river_stream_hours (ctx_cons h_river_run (ctx_cons h_numbers_Sum (ctx_cons h_numbers_Within ctx_nil)))) mix Try.func36 rfl (by kernel_rfl) ?_
  rintro ⟨a0, a1, a2, a3, a4⟩ r hF
  refine ⟨of_decide_eq_true rfl, ?_⟩
  refine st1 ?_
  obtain ⟨_, h, hF⟩ := e_bind hF
  (first | refine g_call h lv1 ?_ | refine g_callT h lv1 ?_)
  (conv => arg 1; whnf)
  refine st1 ?_
  rcases e_bif hF with ⟨hb, hF⟩ | ⟨hb, hF⟩ <;> rw [hb]
  · refine st1 ?_
    have hq : some _ = some _ := hF
    cases hq
    exact en1
  · refine st1 ?_
    obtain ⟨_, h, hF⟩ := e_bind hF
    (first | refine g_call h lv1 ?_ | refine g_callT h lv1 ?_)
    (conv => arg 1; whnf)
    refine st1 ?_
    rcases e_bif hF with ⟨hb, hF⟩ | ⟨hb, hF⟩ <;> rw [hb]
    · refine st1 ?_
      have hq : some _ = some _ := hF
      cases hq
      exact en1
    · refine st1 ?_
      obtain ⟨_, h, hF⟩ := e_bind hF
      (first | refine g_call h lv1 ?_ | refine g_callT h lv1 ?_)
      (conv => arg 1; whnf)
      refine st1 ?_
      obtain ⟨_, h, hF⟩ := e_bind hF
      (first | refine g_call h lv1 ?_ | refine g_callT h lv1 ?_)
      (conv => arg 1; whnf)
      refine st1 ?_
      rcases e_bif hF with ⟨hb, hF⟩ | ⟨hb, hF⟩ <;> rw [hb]
      · refine st1 ?_
        have hq : some _ = some _ := hF
        cases hq
        exact en1
      · refine st1 ?_
        rcases e_bif hF with ⟨hb, hF⟩ | ⟨hb, hF⟩ <;> rw [hb]
        · refine st1 ?_
          have hq : some _ = some _ := hF
          cases hq
          exact en1
        · refine st1 ?_
          obtain ⟨_, h, hF⟩ := e_bind hF
          (first | refine o_ia (enc := (eS eTBounds)) (s := 1) h (fun _ => rfl) (by decide) ?_ | refine o_iaT (enc := (eS eTBounds)) (s := 1) h (fun _ => rfl) (by decide) ?_)
          intro _
          refine st1 ?_
          obtain ⟨_, h, hF⟩ := e_bind hF
          (first | refine o_slc (enc := eTBounds) (s := 2) h (fun _ => rfl) ?_ | refine o_slcT (enc := eTBounds) (s := 2) h (fun _ => rfl) ?_)
          refine st1 ?_
          obtain ⟨_, h, hF⟩ := e_bind hF
          (first | refine g_call h lv1 ?_ | refine g_callT h lv1 ?_)
          (conv => arg 1; whnf)
          refine st1 ?_
          have hq : some _ = some _ := hF
          cases hq
          exact en1


@[reducible] noncomputable def c_thalwegref01_Flow : Con := conF F_thalwegref01_Flow (fun x => match x with | (a0, a1, a2, a3) => [(V.agg (eTRiver a0)), (V.sl (recs (eS eTBounds) (a1)) (a1).length), (V.v (.int .i64 (a2))), (V.v (.int .i64 (a3)))]) (fun r => (V.agg (eTBounds r)))
theorem hS_thalwegref01_Flow (n : Nat) (ih : Has Try.prog 38 (conF (recN B_thalwegref01_Flow n) (fun x => match x with | (a0, a1, a2, a3) => [(V.agg (eTRiver a0)), (V.sl (recs (eS eTBounds) (a1)) (a1).length), (V.v (.int .i64 (a2))), (V.v (.int .i64 (a3)))]) (fun r => (V.agg (eTBounds r))))) : Has Try.prog 38 (conF (recN B_thalwegref01_Flow (n + 1)) (fun x => match x with | (a0, a1, a2, a3) => [(V.agg (eTRiver a0)), (V.sl (recs (eS eTBounds) (a1)) (a1).length), (V.v (.int .i64 (a2))), (V.v (.int .i64 (a3)))]) (fun r => (V.agg (eTBounds r)))) := by
  refine hasF (ctx_cons ih ctx_nil) mix Try.func38 rfl (by kernel_rfl) ?_
  rintro ⟨a0, a1, a2, a3⟩ r hF
  refine ⟨of_decide_eq_true rfl, ?_⟩
  replace hF : (B_thalwegref01_Flow (recN B_thalwegref01_Flow n) _).bind some = some r := hF
  refine st1 ?_
  rcases e_bif hF with ⟨hb, hF⟩ | ⟨hb, hF⟩ <;> rw [hb]
  · refine st1 ?_
    obtain ⟨_, h, hF⟩ := e_bind hF
    (first | refine o_ia (enc := eTReach) (s := 9) h (fun _ => rfl) (by decide) ?_ | refine o_iaT (enc := eTReach) (s := 9) h (fun _ => rfl) (by decide) ?_)
    intro _
    refine st1 ?_
    have hq : some _ = some _ := hF
    cases hq
    exact en1
  · refine st1 ?_
    obtain ⟨_, h, hF⟩ := e_bind hF
    (first | refine o_ia (enc := (eS eTBounds)) (s := 1) h (fun _ => rfl) (by decide) ?_ | refine o_iaT (enc := (eS eTBounds)) (s := 1) h (fun _ => rfl) (by decide) ?_)
    intro _
    refine st1 ?_
    obtain ⟨_, h, hF⟩ := e_bind hF
    (first | refine o_ia (enc := eTBounds) (s := 2) h (fun _ => rfl) (by decide) ?_ | refine o_iaT (enc := eTBounds) (s := 2) h (fun _ => rfl) (by decide) ?_)
    intro _
    refine st1 ?_
    rcases e_bif hF with ⟨hb, hF⟩ | ⟨hb, hF⟩ <;> rw [hb]
    · refine st1 ?_
      obtain ⟨_, h, hF⟩ := e_bind hF
      (first | refine o_ia (enc := eTReach) (s := 9) h (fun _ => rfl) (by decide) ?_ | refine o_iaT (enc := eTReach) (s := 9) h (fun _ => rfl) (by decide) ?_)
      intro _
      refine st1 ?_
      obtain ⟨_, h, hF⟩ := e_bind hF
      (first | refine g_call h lv1 ?_ | refine g_callT h lv1 ?_)
      (conv => arg 1; whnf)
      refine st1 ?_
      have hq : some _ = some _ := hF
      cases hq
      exact en1
    · refine st1 ?_
      have hq : some _ = some _ := hF
      cases hq
      exact en1

theorem hN_thalwegref01_Flow : ∀ n, Has Try.prog 38 (conF (recN B_thalwegref01_Flow n) (fun x => match x with | (a0, a1, a2, a3) => [(V.agg (eTRiver a0)), (V.sl (recs (eS eTBounds) (a1)) (a1).length), (V.v (.int .i64 (a2))), (V.v (.int .i64 (a3)))]) (fun r => (V.agg (eTBounds r))))
  | 0 => hasF ctx_nil mix Try.func38 rfl (by kernel_rfl) (fun x r hF => by cases hF)
  | n + 1 => hS_thalwegref01_Flow n (hN_thalwegref01_Flow n)
theorem h_thalwegref01_Flow : Has Try.prog 38 c_thalwegref01_Flow := has_fix hN_thalwegref01_Flow


@[reducible] noncomputable def c_thalweglaw01_RiverVolumes : Con := conF F_thalweglaw01_RiverVolumes (fun x => match x with | (a0, a1) => [(V.agg (eTthalweglaw01_Forecast a0)), (V.agg (eTanon65 a1))]) (fun r => (V.v (.bool (r))))
theorem fl_thalweglaw01_RiverVolumes_27 : flatOf Try.prog 9 27 = some [true, true] := by kernel_rfl
theorem eg_thalweglaw01_RiverVolumes_27 : Try.prog.eqGuardType Try.prog.depth 27 = false := by kernel_rfl
theorem ag_thalweglaw01_RiverVolumes_27 : aggOf Try.prog 27 = some true := by kernel_rfl
theorem h_thalweglaw01_RiverVolumes : Has Try.prog 6 c_thalweglaw01_RiverVolumes := by
  refine hasF (ctx_cons h_thalwegref01_Flow (ctx_cons h_thalwegref01_In (ctx_cons h_river_Volume (ctx_cons h_thalwegref01_Start (ctx_cons h_thalweglaw01_forecast (ctx_cons h_thalweglaw01_copied (ctx_cons h_thalweglaw01_known (ctx_cons h_thalweglaw01_large ctx_nil)))))))) mix Try.func6 rfl (by kernel_rfl) ?_
  rintro ⟨a0, a1⟩ r hF
  refine ⟨of_decide_eq_true rfl, ?_⟩
  refine st1 ?_
  obtain ⟨_, h, hF⟩ := e_bind hF
  (first | refine g_call h lv1 ?_ | refine g_callT h lv1 ?_)
  (conv => arg 1; whnf)
  refine st1 ?_
  rcases e_bif hF with ⟨hb, hF⟩ | ⟨hb, hF⟩ <;> rw [hb]
  · refine st1 ?_
    obtain ⟨_, h, hF⟩ := e_bind hF
    (first | refine g_call h lv1 ?_ | refine g_callT h lv1 ?_)
    (conv => arg 1; whnf)
    refine st1 ?_
    have hq : some _ = some _ := hF
    cases hq
    exact en1
  · refine st1 ?_
    obtain ⟨_, h, hF⟩ := e_bind hF
    (first | refine g_call h lv1 ?_ | refine g_callT h lv1 ?_)
    (conv => arg 1; whnf)
    refine st1 ?_
    obtain ⟨_, h, hF⟩ := e_bind hF
    (first | refine g_call h lv1 ?_ | refine g_callT h lv1 ?_)
    (conv => arg 1; whnf)
    refine st1 ?_
    obtain ⟨_, h, hF⟩ := e_bind hF
    (first | refine g_call h lv1 ?_ | refine g_callT h lv1 ?_)
    (conv => arg 1; whnf)
    refine st1 ?_
    obtain ⟨_, h, hF⟩ := e_bind hF
    (first | refine g_call h lv1 ?_ | refine g_callT h lv1 ?_)
    (conv => arg 1; whnf)
    refine st1 ?_
    rcases e_bif hF with ⟨hb, hF⟩ | ⟨hb, hF⟩ <;> rw [hb]
    · refine st1 ?_
      obtain ⟨_, h, hF⟩ := e_bind hF
      (first | refine g_call h lv1 ?_ | refine g_callT h lv1 ?_)
      (conv => arg 1; whnf)
      refine st1 ?_
      rcases e_bif hF with ⟨hb, hF⟩ | ⟨hb, hF⟩ <;> rw [hb]
      · refine st1 ?_
        rcases e_bif hF with ⟨hb, hF⟩ | ⟨hb, hF⟩ <;> rw [hb]
        · refine st1 ?_
          rw [fl_thalweglaw01_RiverVolumes_27, eg_thalweglaw01_RiverVolumes_27, ag_thalweglaw01_RiverVolumes_27]
          (conv => arg 1; whnf)
          refine st1 ?_
          rcases e_bif hF with ⟨hb, hF⟩ | ⟨hb, hF⟩ <;> rw [hb]
          · refine st1 ?_
            obtain ⟨_, h, hF⟩ := e_bind hF
            (first | refine g_call h lv1 ?_ | refine g_callT h lv1 ?_)
            (conv => arg 1; whnf)
            refine st1 ?_
            have hq : some _ = some _ := hF
            cases hq
            exact en1
          · refine st1 ?_
            have hq : some _ = some _ := hF
            cases hq
            exact en1
        · refine st1 ?_
          have hq : some _ = some _ := hF
          cases hq
          exact en1
      · refine st1 ?_
        rcases e_bif hF with ⟨hb, hF⟩ | ⟨hb, hF⟩ <;> rw [hb]
        · refine st1 ?_
          obtain ⟨_, h, hF⟩ := e_bind hF
          (first | refine g_call h lv1 ?_ | refine g_callT h lv1 ?_)
          (conv => arg 1; whnf)
          refine st1 ?_
          rcases e_bif hF with ⟨hb, hF⟩ | ⟨hb, hF⟩ <;> rw [hb]
          · refine st1 ?_
            rcases e_bif hF with ⟨hb, hF⟩ | ⟨hb, hF⟩ <;> rw [hb]
            · refine st1 ?_
              rw [fl_thalweglaw01_RiverVolumes_27, eg_thalweglaw01_RiverVolumes_27, ag_thalweglaw01_RiverVolumes_27]
              (conv => arg 1; whnf)
              refine st1 ?_
              rcases e_bif hF with ⟨hb, hF⟩ | ⟨hb, hF⟩ <;> rw [hb]
              · refine st1 ?_
                obtain ⟨_, h, hF⟩ := e_bind hF
                (first | refine g_call h lv1 ?_ | refine g_callT h lv1 ?_)
                (conv => arg 1; whnf)
                refine st1 ?_
                have hq : some _ = some _ := hF
                cases hq
                exact en1
              · refine st1 ?_
                have hq : some _ = some _ := hF
                cases hq
                exact en1
            · refine st1 ?_
              have hq : some _ = some _ := hF
              cases hq
              exact en1
          · refine st1 ?_
            obtain ⟨_, h, hF⟩ := e_bind hF
            (first | refine o_ia (enc := (eS eTBounds)) (s := 1) h (fun _ => rfl) (by decide) ?_ | refine o_iaT (enc := (eS eTBounds)) (s := 1) h (fun _ => rfl) (by decide) ?_)
            intro _
            refine st1 ?_
            rcases e_bif hF with ⟨hb, hF⟩ | ⟨hb, hF⟩ <;> rw [hb]
            · refine st1 ?_
              rcases e_bif hF with ⟨hb, hF⟩ | ⟨hb, hF⟩ <;> rw [hb]
              · refine st1 ?_
                rw [fl_thalweglaw01_RiverVolumes_27, eg_thalweglaw01_RiverVolumes_27, ag_thalweglaw01_RiverVolumes_27]
                (conv => arg 1; whnf)
                refine st1 ?_
                rcases e_bif hF with ⟨hb, hF⟩ | ⟨hb, hF⟩ <;> rw [hb]
                · refine st1 ?_
                  obtain ⟨_, h, hF⟩ := e_bind hF
                  (first | refine g_call h lv1 ?_ | refine g_callT h lv1 ?_)
                  (conv => arg 1; whnf)
                  refine st1 ?_
                  have hq : some _ = some _ := hF
                  cases hq
                  exact en1
                · refine st1 ?_
                  have hq : some _ = some _ := hF
                  cases hq
                  exact en1
              · refine st1 ?_
                have hq : some _ = some _ := hF
                cases hq
                exact en1
            · refine st1 ?_
              rcases e_bif hF with ⟨hb, hF⟩ | ⟨hb, hF⟩ <;> rw [hb]
              · refine st1 ?_
                rcases e_bif hF with ⟨hb, hF⟩ | ⟨hb, hF⟩ <;> rw [hb]
                · refine st1 ?_
                  rw [fl_thalweglaw01_RiverVolumes_27, eg_thalweglaw01_RiverVolumes_27, ag_thalweglaw01_RiverVolumes_27]
                  (conv => arg 1; whnf)
                  refine st1 ?_
                  rcases e_bif hF with ⟨hb, hF⟩ | ⟨hb, hF⟩ <;> rw [hb]
                  · refine st1 ?_
                    obtain ⟨_, h, hF⟩ := e_bind hF
                    (first | refine g_call h lv1 ?_ | refine g_callT h lv1 ?_)
                    (conv => arg 1; whnf)
                    refine st1 ?_
                    have hq : some _ = some _ := hF
                    cases hq
                    exact en1
                  · refine st1 ?_
                    have hq : some _ = some _ := hF
                    cases hq
                    exact en1
                · refine st1 ?_
                  have hq : some _ = some _ := hF
                  cases hq
                  exact en1
              · refine st1 ?_
                refine st_loopF (e_assoc hF) () [(0, _), (1, _), (21, _), (65, _)] ⟨sT, sS, by rfl, by rfl⟩ ?_
                · rintro n ⟨_, _, _⟩ _ x hx1 hF
                  (conv => arg 7; whnf); (conv => arg 8; whnf); (conv => arg 9; whnf)
                  refine st1 ?_
                  rcases e_bif hF with ⟨hb, hF⟩ | ⟨hb, hF⟩ <;> rw [hb]
                  · refine st1 ?_
                    obtain ⟨_, h, hF⟩ := e_bind hF
                    (first | refine g_call h lv1 ?_ | refine g_callT h lv1 ?_)
                    (conv => arg 1; whnf)
                    refine st1 ?_
                    exact k_loopF (e_some hF) hx1 () [(0, _), (1, _), (21, _), (65, _)] ⟨sT, sS, by rfl, by rfl⟩
                  · refine st1 ?_
                    have hF := e_some hF
                    rcases e_bif hF with ⟨hb, hF⟩ | ⟨hb, hF⟩ <;> rw [hb]
                    · refine st1 ?_
                      rw [fl_thalweglaw01_RiverVolumes_27, eg_thalweglaw01_RiverVolumes_27, ag_thalweglaw01_RiverVolumes_27]
                      (conv => arg 1; whnf)
                      refine st1 ?_
                      rcases e_bif hF with ⟨hb, hF⟩ | ⟨hb, hF⟩ <;> rw [hb]
                      · refine st1 ?_
                        obtain ⟨_, h, hF⟩ := e_bind hF
                        (first | refine g_call h lv1 ?_ | refine g_callT h lv1 ?_)
                        (conv => arg 1; whnf)
                        refine st1 ?_
                        have hq : some _ = some _ := hF
                        cases hq
                        exact en1
                      · refine st1 ?_
                        have hq : some _ = some _ := hF
                        cases hq
                        exact en1
                    · refine st1 ?_
                      have hq : some _ = some _ := hF
                      cases hq
                      exact en1
        · refine st1 ?_
          rcases e_bif hF with ⟨hb, hF⟩ | ⟨hb, hF⟩ <;> rw [hb]
          · refine st1 ?_
            rcases e_bif hF with ⟨hb, hF⟩ | ⟨hb, hF⟩ <;> rw [hb]
            · refine st1 ?_
              rw [fl_thalweglaw01_RiverVolumes_27, eg_thalweglaw01_RiverVolumes_27, ag_thalweglaw01_RiverVolumes_27]
              (conv => arg 1; whnf)
              refine st1 ?_
              rcases e_bif hF with ⟨hb, hF⟩ | ⟨hb, hF⟩ <;> rw [hb]
              · refine st1 ?_
                obtain ⟨_, h, hF⟩ := e_bind hF
                (first | refine g_call h lv1 ?_ | refine g_callT h lv1 ?_)
                (conv => arg 1; whnf)
                refine st1 ?_
                have hq : some _ = some _ := hF
                cases hq
                exact en1
              · refine st1 ?_
                have hq : some _ = some _ := hF
                cases hq
                exact en1
            · refine st1 ?_
              have hq : some _ = some _ := hF
              cases hq
              exact en1
          · refine st1 ?_
            refine st_loopF (e_assoc hF) () [(0, _), (1, _), (21, _), (65, _)] ⟨sT, sS, by rfl, by rfl⟩ ?_
            · rintro n ⟨_, _, _⟩ _ x hx1 hF
              (conv => arg 7; whnf); (conv => arg 8; whnf); (conv => arg 9; whnf)
              refine st1 ?_
              rcases e_bif hF with ⟨hb, hF⟩ | ⟨hb, hF⟩ <;> rw [hb]
              · refine st1 ?_
                obtain ⟨_, h, hF⟩ := e_bind hF
                (first | refine g_call h lv1 ?_ | refine g_callT h lv1 ?_)
                (conv => arg 1; whnf)
                refine st1 ?_
                exact k_loopF (e_some hF) hx1 () [(0, _), (1, _), (21, _), (65, _)] ⟨sT, sS, by rfl, by rfl⟩
              · refine st1 ?_
                have hF := e_some hF
                rcases e_bif hF with ⟨hb, hF⟩ | ⟨hb, hF⟩ <;> rw [hb]
                · refine st1 ?_
                  rw [fl_thalweglaw01_RiverVolumes_27, eg_thalweglaw01_RiverVolumes_27, ag_thalweglaw01_RiverVolumes_27]
                  (conv => arg 1; whnf)
                  refine st1 ?_
                  rcases e_bif hF with ⟨hb, hF⟩ | ⟨hb, hF⟩ <;> rw [hb]
                  · refine st1 ?_
                    obtain ⟨_, h, hF⟩ := e_bind hF
                    (first | refine g_call h lv1 ?_ | refine g_callT h lv1 ?_)
                    (conv => arg 1; whnf)
                    refine st1 ?_
                    have hq : some _ = some _ := hF
                    cases hq
                    exact en1
                  · refine st1 ?_
                    have hq : some _ = some _ := hF
                    cases hq
                    exact en1
                · refine st1 ?_
                  have hq : some _ = some _ := hF
                  cases hq
                  exact en1
    · refine st1 ?_
      rcases e_bif hF with ⟨hb, hF⟩ | ⟨hb, hF⟩ <;> rw [hb]
      · refine st1 ?_
        obtain ⟨_, h, hF⟩ := e_bind hF
        (first | refine g_call h lv1 ?_ | refine g_callT h lv1 ?_)
        (conv => arg 1; whnf)
        refine st1 ?_
        rcases e_bif hF with ⟨hb, hF⟩ | ⟨hb, hF⟩ <;> rw [hb]
        · refine st1 ?_
          rcases e_bif hF with ⟨hb, hF⟩ | ⟨hb, hF⟩ <;> rw [hb]
          · refine st1 ?_
            rw [fl_thalweglaw01_RiverVolumes_27, eg_thalweglaw01_RiverVolumes_27, ag_thalweglaw01_RiverVolumes_27]
            (conv => arg 1; whnf)
            refine st1 ?_
            rcases e_bif hF with ⟨hb, hF⟩ | ⟨hb, hF⟩ <;> rw [hb]
            · refine st1 ?_
              obtain ⟨_, h, hF⟩ := e_bind hF
              (first | refine g_call h lv1 ?_ | refine g_callT h lv1 ?_)
              (conv => arg 1; whnf)
              refine st1 ?_
              have hq : some _ = some _ := hF
              cases hq
              exact en1
            · refine st1 ?_
              have hq : some _ = some _ := hF
              cases hq
              exact en1
          · refine st1 ?_
            have hq : some _ = some _ := hF
            cases hq
            exact en1
        · refine st1 ?_
          obtain ⟨_, h, hF⟩ := e_bind hF
          (first | refine o_ia (enc := (eS eTBounds)) (s := 1) h (fun _ => rfl) (by decide) ?_ | refine o_iaT (enc := (eS eTBounds)) (s := 1) h (fun _ => rfl) (by decide) ?_)
          intro _
          refine st1 ?_
          rcases e_bif hF with ⟨hb, hF⟩ | ⟨hb, hF⟩ <;> rw [hb]
          · refine st1 ?_
            rcases e_bif hF with ⟨hb, hF⟩ | ⟨hb, hF⟩ <;> rw [hb]
            · refine st1 ?_
              rw [fl_thalweglaw01_RiverVolumes_27, eg_thalweglaw01_RiverVolumes_27, ag_thalweglaw01_RiverVolumes_27]
              (conv => arg 1; whnf)
              refine st1 ?_
              rcases e_bif hF with ⟨hb, hF⟩ | ⟨hb, hF⟩ <;> rw [hb]
              · refine st1 ?_
                obtain ⟨_, h, hF⟩ := e_bind hF
                (first | refine g_call h lv1 ?_ | refine g_callT h lv1 ?_)
                (conv => arg 1; whnf)
                refine st1 ?_
                have hq : some _ = some _ := hF
                cases hq
                exact en1
              · refine st1 ?_
                have hq : some _ = some _ := hF
                cases hq
                exact en1
            · refine st1 ?_
              have hq : some _ = some _ := hF
              cases hq
              exact en1
          · refine st1 ?_
            rcases e_bif hF with ⟨hb, hF⟩ | ⟨hb, hF⟩ <;> rw [hb]
            · refine st1 ?_
              rcases e_bif hF with ⟨hb, hF⟩ | ⟨hb, hF⟩ <;> rw [hb]
              · refine st1 ?_
                rw [fl_thalweglaw01_RiverVolumes_27, eg_thalweglaw01_RiverVolumes_27, ag_thalweglaw01_RiverVolumes_27]
                (conv => arg 1; whnf)
                refine st1 ?_
                rcases e_bif hF with ⟨hb, hF⟩ | ⟨hb, hF⟩ <;> rw [hb]
                · refine st1 ?_
                  obtain ⟨_, h, hF⟩ := e_bind hF
                  (first | refine g_call h lv1 ?_ | refine g_callT h lv1 ?_)
                  (conv => arg 1; whnf)
                  refine st1 ?_
                  have hq : some _ = some _ := hF
                  cases hq
                  exact en1
                · refine st1 ?_
                  have hq : some _ = some _ := hF
                  cases hq
                  exact en1
              · refine st1 ?_
                have hq : some _ = some _ := hF
                cases hq
                exact en1
            · refine st1 ?_
              refine st_loopF (e_assoc hF) () [(0, _), (1, _), (21, _), (65, _)] ⟨sT, sS, by rfl, by rfl⟩ ?_
              · rintro n ⟨_, _, _⟩ _ x hx1 hF
                (conv => arg 7; whnf); (conv => arg 8; whnf); (conv => arg 9; whnf)
                refine st1 ?_
                rcases e_bif hF with ⟨hb, hF⟩ | ⟨hb, hF⟩ <;> rw [hb]
                · refine st1 ?_
                  obtain ⟨_, h, hF⟩ := e_bind hF
                  (first | refine g_call h lv1 ?_ | refine g_callT h lv1 ?_)
                  (conv => arg 1; whnf)
                  refine st1 ?_
                  exact k_loopF (e_some hF) hx1 () [(0, _), (1, _), (21, _), (65, _)] ⟨sT, sS, by rfl, by rfl⟩
                · refine st1 ?_
                  have hF := e_some hF
                  rcases e_bif hF with ⟨hb, hF⟩ | ⟨hb, hF⟩ <;> rw [hb]
                  · refine st1 ?_
                    rw [fl_thalweglaw01_RiverVolumes_27, eg_thalweglaw01_RiverVolumes_27, ag_thalweglaw01_RiverVolumes_27]
                    (conv => arg 1; whnf)
                    refine st1 ?_
                    rcases e_bif hF with ⟨hb, hF⟩ | ⟨hb, hF⟩ <;> rw [hb]
                    · refine st1 ?_
                      obtain ⟨_, h, hF⟩ := e_bind hF
                      (first | refine g_call h lv1 ?_ | refine g_callT h lv1 ?_)
                      (conv => arg 1; whnf)
                      refine st1 ?_
                      have hq : some _ = some _ := hF
                      cases hq
                      exact en1
                    · refine st1 ?_
                      have hq : some _ = some _ := hF
                      cases hq
                      exact en1
                  · refine st1 ?_
                    have hq : some _ = some _ := hF
                    cases hq
                    exact en1
      · refine st1 ?_
        rcases e_bif hF with ⟨hb, hF⟩ | ⟨hb, hF⟩ <;> rw [hb]
        · refine st1 ?_
          rcases e_bif hF with ⟨hb, hF⟩ | ⟨hb, hF⟩ <;> rw [hb]
          · refine st1 ?_
            rw [fl_thalweglaw01_RiverVolumes_27, eg_thalweglaw01_RiverVolumes_27, ag_thalweglaw01_RiverVolumes_27]
            (conv => arg 1; whnf)
            refine st1 ?_
            rcases e_bif hF with ⟨hb, hF⟩ | ⟨hb, hF⟩ <;> rw [hb]
            · refine st1 ?_
              obtain ⟨_, h, hF⟩ := e_bind hF
              (first | refine g_call h lv1 ?_ | refine g_callT h lv1 ?_)
              (conv => arg 1; whnf)
              refine st1 ?_
              have hq : some _ = some _ := hF
              cases hq
              exact en1
            · refine st1 ?_
              have hq : some _ = some _ := hF
              cases hq
              exact en1
          · refine st1 ?_
            have hq : some _ = some _ := hF
            cases hq
            exact en1
        · refine st1 ?_
          refine st_loopF (e_assoc hF) () [(0, _), (1, _), (21, _), (65, _)] ⟨sT, sS, by rfl, by rfl⟩ ?_
          · rintro n ⟨_, _, _⟩ _ x hx1 hF
            (conv => arg 7; whnf); (conv => arg 8; whnf); (conv => arg 9; whnf)
            refine st1 ?_
            rcases e_bif hF with ⟨hb, hF⟩ | ⟨hb, hF⟩ <;> rw [hb]
            · refine st1 ?_
              obtain ⟨_, h, hF⟩ := e_bind hF
              (first | refine g_call h lv1 ?_ | refine g_callT h lv1 ?_)
              (conv => arg 1; whnf)
              refine st1 ?_
              exact k_loopF (e_some hF) hx1 () [(0, _), (1, _), (21, _), (65, _)] ⟨sT, sS, by rfl, by rfl⟩
            · refine st1 ?_
              have hF := e_some hF
              rcases e_bif hF with ⟨hb, hF⟩ | ⟨hb, hF⟩ <;> rw [hb]
              · refine st1 ?_
                rw [fl_thalweglaw01_RiverVolumes_27, eg_thalweglaw01_RiverVolumes_27, ag_thalweglaw01_RiverVolumes_27]
                (conv => arg 1; whnf)
                refine st1 ?_
                rcases e_bif hF with ⟨hb, hF⟩ | ⟨hb, hF⟩ <;> rw [hb]
                · refine st1 ?_
                  obtain ⟨_, h, hF⟩ := e_bind hF
                  (first | refine g_call h lv1 ?_ | refine g_callT h lv1 ?_)
                  (conv => arg 1; whnf)
                  refine st1 ?_
                  have hq : some _ = some _ := hF
                  cases hq
                  exact en1
                · refine st1 ?_
                  have hq : some _ = some _ := hF
                  cases hq
                  exact en1
              · refine st1 ?_
                have hq : some _ = some _ := hF
                cases hq
                exact en1

end Go.Ev
/- The functions do what is said. -/
set_option linter.unusedVariables false
set_option linter.unusedSimpArgs false
namespace Go.Ev
open Go.Proofs
set_option maxHeartbeats 1000000
set_option maxRecDepth 100000
@[reducible] noncomputable def c_numbers_Down : Con := conF F_numbers_Down (fun x => match x with | (a0, a1) => [(V.v (.int .i64 (a0))), (V.v (.int .i64 (a1)))]) (fun r => (V.v (.int .i64 (r))))
theorem h_numbers_Down : Has Try.prog 69 c_numbers_Down := by
  refine hasF ctx_nil mix Try.func69 rfl (by kernel_rfl) ?_
  rintro ⟨a0, a1⟩ r hF
  refine ⟨of_decide_eq_true rfl, ?_⟩
  refine st1 ?_
  obtain ⟨_, h, hF⟩ := e_bind hF
  (first | refine go_req (nz_ne h) ?_ | refine goT_req (nz_ne h) ?_)
  (conv => arg 1; whnf)
  refine st1 ?_
  rcases e_bif hF with ⟨hb1, hF⟩ | ⟨hb1, hF⟩ <;> rw [hb1]
  · refine st1 ?_
    obtain ⟨_, h, hF⟩ := e_bind hF
    (first | refine go_req (nz_ne h) ?_ | refine goT_req (nz_ne h) ?_)
    (conv => arg 1; whnf)
    refine st1 ?_
    have hq : some _ = some _ := hF
    cases hq
    exact en1
  · refine st1 ?_
    obtain ⟨_, h, hF⟩ := e_bind hF
    (first | refine go_req (nz_ne h) ?_ | refine goT_req (nz_ne h) ?_)
    (conv => arg 1; whnf)
    refine st1 ?_
    have hq : some _ = some _ := hF
    cases hq
    exact en1


@[reducible] noncomputable def c_numbers_Up : Con := conF F_numbers_Up (fun x => match x with | (a0, a1) => [(V.v (.int .i64 (a0))), (V.v (.int .i64 (a1)))]) (fun r => (V.v (.int .i64 (r))))
theorem h_numbers_Up : Has Try.prog 70 c_numbers_Up := by
  refine hasF (ctx_cons h_numbers_Down ctx_nil) mix Try.func70 rfl (by kernel_rfl) ?_
  rintro ⟨a0, a1⟩ r hF
  refine ⟨of_decide_eq_true rfl, ?_⟩
  refine st1 ?_
  obtain ⟨_, h, hF⟩ := e_bind hF
  (first | refine g_call h lv1 ?_ | refine g_callT h lv1 ?_)
  (conv => arg 1; whnf)
  refine st1 ?_
  have hq : some _ = some _ := hF
  cases hq
  exact en1


@[reducible] noncomputable def c_slices_IndexFunc_L_RateRow_RateRow (C : FuncId → Option Con) : Con := conK F_slices_IndexFunc_L_RateRow_RateRow (fun x => match x with | (a0, a1, g, caps) => [(V.sl (recs eTRateRow (a0)) (a0).length), (V.fn g caps)]) (fun x => match x with | (a0, a1, g, caps) => Callable (ext C []) g caps (fun x => match x with | (q0) => [(V.agg (eTRateRow q0))]) (fun r => (V.v (.bool (r)))) a1) (fun r => (V.v (.int .i64 (r))))
theorem h_slices_IndexFunc_L_RateRow_RateRow {C : FuncId → Option Con} (hC : CtxOK Try.prog C) : Has Try.prog 104 (c_slices_IndexFunc_L_RateRow_RateRow C) := by
  refine hasK (ext_nil hC) mix Try.func104 rfl (by kernel_rfl) ?_
  rintro ⟨a0, a1, g, caps⟩ r hcl hF
  obtain ⟨hcaps, c, hc, hce, hcall⟩ := id hcl
  refine ⟨of_decide_eq_true rfl, ?_⟩
  refine st1 ?_
  refine st_loopF (e_assoc hF) () [] ⟨sT, sS, by rfl, by rfl⟩ ?_
  · rintro n _ _ x hx1 hF
    (conv => arg 7; whnf); (conv => arg 8; whnf); (conv => arg 9; whnf)
    refine st1 ?_
    rcases e_bif hF with ⟨hb5, hF⟩ | ⟨hb5, hF⟩ <;> rw [hb5]
    · refine st1 ?_
      obtain ⟨_, h, hF⟩ := e_bind hF
      (first | refine o_ia (enc := eTRateRow) (s := 2) h (fun _ => rfl) (by decide) ?_ | refine o_iaT (enc := eTRateRow) (s := 2) h (fun _ => rfl) (by decide) ?_)
      intro _
      refine st1 ?_
      obtain ⟨_, h, hF⟩ := e_bind hF
      rw [hc]
      (conv => arg 1; whnf)
      rw [hce]
      (conv => arg 1; whnf)
      (first | refine go_map hcaps rfl ?_ | refine goT_map hcaps rfl ?_)
      (conv => arg 1; whnf)
      obtain ⟨z, hz1, hz2, hz3⟩ := hcall _ _ h
      (first | refine go_exi z ⟨levs_eq hz1.symm, hz2⟩ ?_ | refine goT_exi z ⟨levs_eq hz1.symm, hz2⟩ ?_)
      rw [hz3]
      (conv => arg 1; whnf)
      refine st1 ?_
      rcases e_bif hF with ⟨hb6, hF⟩ | ⟨hb6, hF⟩ <;> rw [hb6]
      · refine st1 ?_
        have hF := e_some hF
        have hq : some _ = some _ := hF
        cases hq
        exact en1
      · refine st1 ?_
        exact k_loopF (e_some hF) hx1 () [] ⟨sT, sS, by rfl, by rfl⟩
    · refine st1 ?_
      have hF := e_some hF
      have hq : some _ = some _ := hF
      cases hq
      exact en1


@[reducible] noncomputable def c_river_curveAt_1 : Con := conF F_river_curveAt_1 (fun x => match x with | (a0, c0) => [(V.agg (eTRateRow a0)), (V.fptr [(V.v (.int .i64 (c0)))])]) (fun r => (V.v (.bool (r))))
theorem h_river_curveAt_1 : Has Try.prog 105 c_river_curveAt_1 := by
  refine hasF ctx_nil mix Try.func105 rfl (by kernel_rfl) ?_
  rintro ⟨a0, c0⟩ r hF
  refine ⟨of_decide_eq_true rfl, ?_⟩
  refine st1 ?_
  have hq : some _ = some _ := hF
  cases hq
  exact en1


@[reducible] noncomputable def c_river_curveAt (C : FuncId → Option Con) : Con := conK F_river_curveAt (fun x => match x with | (a0, a1, a2, g, caps) => [(V.sl (recs eTRateRow (a0)) (a0).length), (V.v (.int .i64 (a1))), (V.fn g caps)]) (fun x => match x with | (a0, a1, a2, g, caps) => Callable (ext C [(104, c_slices_IndexFunc_L_RateRow_RateRow (ctx [(105, c_river_curveAt_1)]))]) g caps (fun x => match x with | (q0, q1) => [(V.v (.int .i64 (q0))), (V.v (.int .i64 (q1)))]) (fun r => (V.v (.int .i64 (r)))) a2) (fun r => (V.v (.int .i64 (r))))
theorem h_river_curveAt {C : FuncId → Option Con} (hC : CtxOK Try.prog C) : Has Try.prog 91 (c_river_curveAt C) := by
  refine hasK (ext_cons (h_slices_IndexFunc_L_RateRow_RateRow (ctx_cons h_river_curveAt_1 ctx_nil)) (ext_nil hC)) mix Try.func91 rfl (by kernel_rfl) ?_
  rintro ⟨a0, a1, a2, g, caps⟩ r hcl hF
  obtain ⟨hcaps, c, hc, hce, hcall⟩ := id hcl
  refine ⟨of_decide_eq_true rfl, ?_⟩
  refine st1 ?_
  obtain ⟨_, h, hF⟩ := e_bind hF
  (first | refine g_hcall h lv1 (callable_conF rfl rfl (fun _ => rfl)) ?_ | refine g_hcallT h lv1 (callable_conF rfl rfl (fun _ => rfl)) ?_)
  (conv => arg 1; whnf)
  refine st1 ?_
  rcases e_bif hF with ⟨hb1, hF⟩ | ⟨hb1, hF⟩ <;> rw [hb1]
  · refine st1 ?_
    obtain ⟨_, h, hF⟩ := e_bind hF
    (first | refine o_ia (enc := eTRateRow) (s := 2) h (fun _ => rfl) (by decide) ?_ | refine o_iaT (enc := eTRateRow) (s := 2) h (fun _ => rfl) (by decide) ?_)
    intro _
    refine st1 ?_
    have hq : some _ = some _ := hF
    cases hq
    exact en1
  · refine st1 ?_
    rcases e_bif hF with ⟨hb2, hF⟩ | ⟨hb2, hF⟩ <;> rw [hb2]
    · refine st1 ?_
      obtain ⟨_, h, hF⟩ := e_bind hF
      (first | refine o_ia (enc := eTRateRow) (s := 2) h (fun _ => rfl) (by decide) ?_ | refine o_iaT (enc := eTRateRow) (s := 2) h (fun _ => rfl) (by decide) ?_)
      intro _
      refine st1 ?_
      have hq : some _ = some _ := hF
      cases hq
      exact en1
    · refine st1 ?_
      obtain ⟨_, h, hF⟩ := e_bind hF
      (first | refine o_ia (enc := eTRateRow) (s := 2) h (fun _ => rfl) (by decide) ?_ | refine o_iaT (enc := eTRateRow) (s := 2) h (fun _ => rfl) (by decide) ?_)
      intro _
      refine st1 ?_
      obtain ⟨_, h, hF⟩ := e_bind hF
      (first | refine o_ia (enc := eTRateRow) (s := 2) h (fun _ => rfl) (by decide) ?_ | refine o_iaT (enc := eTRateRow) (s := 2) h (fun _ => rfl) (by decide) ?_)
      intro _
      refine st1 ?_
      obtain ⟨_, h, hF⟩ := e_bind hF
      rw [hc]
      (conv => arg 1; whnf)
      rw [hce]
      (conv => arg 1; whnf)
      (first | refine go_map hcaps rfl ?_ | refine goT_map hcaps rfl ?_)
      (conv => arg 1; whnf)
      obtain ⟨z, hz1, hz2, hz3⟩ := hcall _ _ h
      (first | refine go_exi z ⟨levs_eq hz1.symm, hz2⟩ ?_ | refine goT_exi z ⟨levs_eq hz1.symm, hz2⟩ ?_)
      rw [hz3]
      (conv => arg 1; whnf)
      refine st1 ?_
      have hq : some _ = some _ := hF
      cases hq
      exact en1


@[reducible] noncomputable def c_river_levelAt : Con := conF F_river_levelAt (fun x => match x with | (a0, a1) => [(V.agg (eTReach a0)), (V.agg (eTBounds a1))]) (fun r => (V.agg (eTBounds r)))
theorem h_river_levelAt : Has Try.prog 64 c_river_levelAt := by
  refine hasF (ctx_cons (h_river_curveAt (ctx_cons h_numbers_Up (ctx_cons h_numbers_Down ctx_nil))) ctx_nil) mix Try.func64 rfl (by kernel_rfl) ?_
  rintro ⟨a0, a1⟩ r hF
  refine ⟨of_decide_eq_true rfl, ?_⟩
  refine st1 ?_
  obtain ⟨_, h, hF⟩ := e_bind hF
  (first | refine g_hcall h lv1 (callable_conF rfl rfl (fun _ => rfl)) ?_ | refine g_hcallT h lv1 (callable_conF rfl rfl (fun _ => rfl)) ?_)
  (conv => arg 1; whnf)
  refine st1 ?_
  obtain ⟨_, h, hF⟩ := e_bind hF
  (first | refine g_hcall h lv1 (callable_conF rfl rfl (fun _ => rfl)) ?_ | refine g_hcallT h lv1 (callable_conF rfl rfl (fun _ => rfl)) ?_)
  (conv => arg 1; whnf)
  refine st1 ?_
  have hq : some _ = some _ := hF
  cases hq
  exact en1


@[reducible] noncomputable def c_river_stream_level : Con := conF F_river_stream_level (fun x => match x with | (a0, a1, a2) => [(V.agg (eTriver_stream a0)), (V.v (.int .i64 (a1))), (V.v (.int .i64 (a2)))]) (fun r => (V.agg (eTBounds r)))
theorem h_river_stream_level : Has Try.prog 76 c_river_stream_level := by
  refine hasF (ctx_cons h_river_levelAt ctx_nil) mix Try.func76 rfl (by kernel_rfl) ?_
  rintro ⟨a0, a1, a2⟩ r hF
  refine ⟨of_decide_eq_true rfl, ?_⟩
  refine st1 ?_
  obtain ⟨_, h, hF⟩ := e_bind hF
  (first | refine o_ia (enc := eTReach) (s := 9) h (fun _ => rfl) (by decide) ?_ | refine o_iaT (enc := eTReach) (s := 9) h (fun _ => rfl) (by decide) ?_)
  intro _
  refine st1 ?_
  obtain ⟨_, h, hF⟩ := e_bind hF
  (first | refine o_ia (enc := (eS eTBounds)) (s := 1) h (fun _ => rfl) (by decide) ?_ | refine o_iaT (enc := (eS eTBounds)) (s := 1) h (fun _ => rfl) (by decide) ?_)
  intro _
  refine st1 ?_
  obtain ⟨_, h, hF⟩ := e_bind hF
  (first | refine o_ia (enc := eTBounds) (s := 2) h (fun _ => rfl) (by decide) ?_ | refine o_iaT (enc := eTBounds) (s := 2) h (fun _ => rfl) (by decide) ?_)
  intro _
  refine st1 ?_
  obtain ⟨_, h, hF⟩ := e_bind hF
  (first | refine g_call h lv1 ?_ | refine g_callT h lv1 ?_)
  (conv => arg 1; whnf)
  refine st1 ?_
  have hq : some _ = some _ := hF
  cases hq
  exact en1


@[reducible] noncomputable def c_river_stream_findAt : Con := conF F_river_stream_findAt (fun x => match x with | (a0, a1, a2) => [(V.agg (eTriver_stream a0)), (V.v (.int .i64 (a1))), (V.v (.int .i64 (a2)))]) (fun r => V.tup [(V.agg (eTriver_site r.1)), (V.v (.int .i64 (r.2)))])
theorem h_river_stream_findAt : Has Try.prog 79 c_river_stream_findAt := by
  refine hasF (ctx_cons h_river_find (ctx_cons h_river_stream_hours (ctx_cons h_numbers_Within ctx_nil))) mix Try.func79 rfl (by kernel_rfl) ?_
  rintro ⟨a0, a1, a2⟩ r hF
  refine ⟨of_decide_eq_true rfl, ?_⟩
  refine st1 ?_
  obtain ⟨_, h, hF⟩ := e_bind hF
  (first | refine g_call h lv1 ?_ | refine g_callT h lv1 ?_)
  (conv => arg 1; whnf)
  refine st1 ?_
  rcases e_bif hF with ⟨hb1, hF⟩ | ⟨hb1, hF⟩ <;> rw [hb1]
  · refine st1 ?_
    have hq : some _ = some _ := hF
    cases hq
    exact en1
  · refine st1 ?_
    obtain ⟨_, h, hF⟩ := e_bind hF
    (first | refine g_call h lv1 ?_ | refine g_callT h lv1 ?_)
    (conv => arg 1; whnf)
    refine st1 ?_
    obtain ⟨_, h, hF⟩ := e_bind hF
    (first | refine g_call h lv1 ?_ | refine g_callT h lv1 ?_)
    (conv => arg 1; whnf)
    refine st1 ?_
    rcases e_bif hF with ⟨hb2, hF⟩ | ⟨hb2, hF⟩ <;> rw [hb2]
    · refine st1 ?_
      have hq : some _ = some _ := hF
      cases hq
      exact en1
    · refine st1 ?_
      have hq : some _ = some _ := hF
      cases hq
      exact en1


@[reducible] noncomputable def c_river_checkClosures_1 : Con := conF F_river_checkClosures_1 (fun x => match x with | (a0) => [(V.agg (eTBounds a0))]) (fun r => (V.v (.bool (r))))
theorem h_river_checkClosures_1 : Has Try.prog 97 c_river_checkClosures_1 := by
  refine hasF (ctx_cons h_numbers_Valid ctx_nil) mix Try.func97 rfl (by kernel_rfl) ?_
  rintro a0 r hF
  refine ⟨of_decide_eq_true rfl, ?_⟩
  refine st1 ?_
  obtain ⟨_, h, hF⟩ := e_bind hF
  (first | refine g_call h lv1 ?_ | refine g_callT h lv1 ?_)
  (conv => arg 1; whnf)
  refine st1 ?_
  have hq : some _ = some _ := hF
  cases hq
  exact en1


@[reducible] noncomputable def c_numbers_Every_Closure (C : FuncId → Option Con) : Con := conK F_numbers_Every_Closure (fun x => match x with | (a0, a1, g, caps) => [(V.sl (recs eTClosure (a0)) (a0).length), (V.fn g caps)]) (fun x => match x with | (a0, a1, g, caps) => Callable (ext C []) g caps (fun x => match x with | (q0) => [(V.agg (eTClosure q0))]) (fun r => (V.v (.bool (r)))) a1) (fun r => (V.v (.bool (r))))
theorem h_numbers_Every_Closure {C : FuncId → Option Con} (hC : CtxOK Try.prog C) : Has Try.prog 98 (c_numbers_Every_Closure C) := by
  refine hasK (ext_nil hC) mix Try.func98 rfl (by kernel_rfl) ?_
  rintro ⟨a0, a1, g, caps⟩ r hcl hF
  obtain ⟨hcaps, c, hc, hce, hcall⟩ := id hcl
  refine ⟨of_decide_eq_true rfl, ?_⟩
  refine st1 ?_
  refine st_loopF (e_assoc hF) () [] ⟨sT, sS, by rfl, by rfl⟩ ?_
  · rintro n _ _ x hx1 hF
    (conv => arg 7; whnf); (conv => arg 8; whnf); (conv => arg 9; whnf)
    refine st1 ?_
    rcases e_bif hF with ⟨hb5, hF⟩ | ⟨hb5, hF⟩ <;> rw [hb5]
    · refine st1 ?_
      obtain ⟨_, h, hF⟩ := e_bind hF
      (first | refine o_ia (enc := eTClosure) (s := 6) h (fun _ => rfl) (by decide) ?_ | refine o_iaT (enc := eTClosure) (s := 6) h (fun _ => rfl) (by decide) ?_)
      intro _
      refine st1 ?_
      obtain ⟨_, h, hF⟩ := e_bind hF
      rw [hc]
      (conv => arg 1; whnf)
      rw [hce]
      (conv => arg 1; whnf)
      (first | refine go_map hcaps rfl ?_ | refine goT_map hcaps rfl ?_)
      (conv => arg 1; whnf)
      obtain ⟨z, hz1, hz2, hz3⟩ := hcall _ _ h
      (first | refine go_exi z ⟨levs_eq hz1.symm, hz2⟩ ?_ | refine goT_exi z ⟨levs_eq hz1.symm, hz2⟩ ?_)
      rw [hz3]
      (conv => arg 1; whnf)
      refine st1 ?_
      rcases e_bif hF with ⟨hb6, hF⟩ | ⟨hb6, hF⟩ <;> rw [hb6]
      · refine st1 ?_
        have hF := e_some hF
        have hq : some _ = some _ := hF
        cases hq
        exact en1
      · refine st1 ?_
        exact k_loopF (e_some hF) hx1 () [] ⟨sT, sS, by rfl, by rfl⟩
    · refine st1 ?_
      have hF := e_some hF
      have hq : some _ = some _ := hF
      cases hq
      exact en1


@[reducible] noncomputable def c_river_checkClosures_2 (C : FuncId → Option Con) : Con := conK F_river_checkClosures_2 (fun x => match x with | (a0, c0, c1, g, caps) => [(V.agg (eTClosure a0)), (V.fptr [(V.sl (recs eTReach (c0.Reaches)) (c0.Reaches).length), (V.sl (recs eTShoal (c0.Shoals)) (c0.Shoals).length)]), (V.fptr [(V.fn g caps)])]) (fun x => match x with | (a0, c0, c1, g, caps) => Callable (ext C [(77, c_river_find)]) g caps (fun x => match x with | (q0) => [(V.agg (eTBounds q0))]) (fun r => (V.v (.bool (r)))) c1) (fun r => (V.v (.bool (r))))
theorem h_river_checkClosures_2 {C : FuncId → Option Con} (hC : CtxOK Try.prog C) : Has Try.prog 99 (c_river_checkClosures_2 C) := by
  refine hasK (ext_cons h_river_find (ext_nil hC)) mix Try.func99 rfl (by kernel_rfl) ?_
  rintro ⟨a0, c0, c1, g, caps⟩ r hcl hF
  obtain ⟨hcaps, c, hc, hce, hcall⟩ := id hcl
  refine ⟨of_decide_eq_true rfl, ?_⟩
  refine st1 ?_
  obtain ⟨_, h, hF⟩ := e_bind hF
  (first | refine g_call h lv1 ?_ | refine g_callT h lv1 ?_)
  (conv => arg 1; whnf)
  refine st1 ?_
  obtain ⟨_, h, hF⟩ := e_bind hF
  (first | refine g_call h lv1 ?_ | refine g_callT h lv1 ?_)
  (conv => arg 1; whnf)
  refine st1 ?_
  rcases e_bif hF with ⟨hb1, hF⟩ | ⟨hb1, hF⟩ <;> rw [hb1]
  · refine st1 ?_
    rcases e_bif hF with ⟨hb2, hF⟩ | ⟨hb2, hF⟩ <;> rw [hb2]
    · refine st1 ?_
      rcases e_bif hF with ⟨hb3, hF⟩ | ⟨hb3, hF⟩ <;> rw [hb3]
      · refine st1 ?_
        obtain ⟨_, h, hF⟩ := e_bind hF
        rw [hc]
        (conv => arg 1; whnf)
        rw [hce]
        (conv => arg 1; whnf)
        (first | refine go_map hcaps rfl ?_ | refine goT_map hcaps rfl ?_)
        (conv => arg 1; whnf)
        obtain ⟨z, hz1, hz2, hz3⟩ := hcall _ _ h
        (first | refine go_exi z ⟨levs_eq hz1.symm, hz2⟩ ?_ | refine goT_exi z ⟨levs_eq hz1.symm, hz2⟩ ?_)
        rw [hz3]
        (conv => arg 1; whnf)
        refine st1 ?_
        rcases e_bif hF with ⟨hb4, hF⟩ | ⟨hb4, hF⟩ <;> rw [hb4]
        · refine st1 ?_
          obtain ⟨_, h, hF⟩ := e_bind hF
          rw [hc]
          (conv => arg 1; whnf)
          rw [hce]
          (conv => arg 1; whnf)
          (first | refine go_map hcaps rfl ?_ | refine goT_map hcaps rfl ?_)
          (conv => arg 1; whnf)
          obtain ⟨z, hz1, hz2, hz3⟩ := hcall _ _ h
          (first | refine go_exi z ⟨levs_eq hz1.symm, hz2⟩ ?_ | refine goT_exi z ⟨levs_eq hz1.symm, hz2⟩ ?_)
          rw [hz3]
          (conv => arg 1; whnf)
          refine st1 ?_
          have hq : some _ = some _ := hF
          cases hq
          exact en1
        · refine st1 ?_
          have hq : some _ = some _ := hF
          cases hq
          exact en1
      · refine st1 ?_
        have hq : some _ = some _ := hF
        cases hq
        exact en1
    · refine st1 ?_
      have hq : some _ = some _ := hF
      cases hq
      exact en1
  · refine st1 ?_
    have hq : some _ = some _ := hF
    cases hq
    exact en1


@[reducible] noncomputable def c_river_checkClosures : Con := conF F_river_checkClosures (fun x => match x with | (a0, a1) => [(V.agg (eTRiver a0)), (V.sl (recs eTClosure (a1)) (a1).length)]) (fun r => (V.v (.int .i64 (r))))
theorem h_river_checkClosures : Has Try.prog 84 c_river_checkClosures := by
  refine hasF (ctx_cons (h_numbers_Every_Closure (ctx_cons (h_river_checkClosures_2 (ctx_cons h_river_checkClosures_1 ctx_nil)) ctx_nil)) ctx_nil) mix Try.func84 rfl (by kernel_rfl) ?_
  rintro ⟨a0, a1⟩ r hF
  refine ⟨of_decide_eq_true rfl, ?_⟩
  refine st1 ?_
  rcases e_bif hF with ⟨hb1, hF⟩ | ⟨hb1, hF⟩ <;> rw [hb1]
  · refine st1 ?_
    have hq : some _ = some _ := hF
    cases hq
    exact en1
  · refine st1 ?_
    obtain ⟨_, h, hF⟩ := e_bind hF
    (first | refine g_hcall h lv1 (callable_conK rfl rfl (fun _ => rfl) (fun _ => callable_conF rfl rfl (fun _ => rfl))) ?_ | refine g_hcallT h lv1 (callable_conK rfl rfl (fun _ => rfl) (fun _ => callable_conF rfl rfl (fun _ => rfl))) ?_)
    (conv => arg 1; whnf)
    refine st1 ?_
    rcases e_bif hF with ⟨hb2, hF⟩ | ⟨hb2, hF⟩ <;> rw [hb2]
    · refine st1 ?_
      have hq : some _ = some _ := hF
      cases hq
      exact en1
    · refine st1 ?_
      have hq : some _ = some _ := hF
      cases hq
      exact en1


@[reducible] noncomputable def c_slices_IndexFunc_L_Closure_Closure (C : FuncId → Option Con) : Con := conK F_slices_IndexFunc_L_Closure_Closure (fun x => match x with | (a0, a1, g, caps) => [(V.sl (recs eTClosure (a0)) (a0).length), (V.fn g caps)]) (fun x => match x with | (a0, a1, g, caps) => Callable (ext C []) g caps (fun x => match x with | (q0) => [(V.agg (eTClosure q0))]) (fun r => (V.v (.bool (r)))) a1) (fun r => (V.v (.int .i64 (r))))
theorem h_slices_IndexFunc_L_Closure_Closure {C : FuncId → Option Con} (hC : CtxOK Try.prog C) : Has Try.prog 100 (c_slices_IndexFunc_L_Closure_Closure C) := by
  refine hasK (ext_nil hC) mix Try.func100 rfl (by kernel_rfl) ?_
  rintro ⟨a0, a1, g, caps⟩ r hcl hF
  obtain ⟨hcaps, c, hc, hce, hcall⟩ := id hcl
  refine ⟨of_decide_eq_true rfl, ?_⟩
  refine st1 ?_
  refine st_loopF (e_assoc hF) () [] ⟨sT, sS, by rfl, by rfl⟩ ?_
  · rintro n _ _ x hx1 hF
    (conv => arg 7; whnf); (conv => arg 8; whnf); (conv => arg 9; whnf)
    refine st1 ?_
    rcases e_bif hF with ⟨hb5, hF⟩ | ⟨hb5, hF⟩ <;> rw [hb5]
    · refine st1 ?_
      obtain ⟨_, h, hF⟩ := e_bind hF
      (first | refine o_ia (enc := eTClosure) (s := 6) h (fun _ => rfl) (by decide) ?_ | refine o_iaT (enc := eTClosure) (s := 6) h (fun _ => rfl) (by decide) ?_)
      intro _
      refine st1 ?_
      obtain ⟨_, h, hF⟩ := e_bind hF
      rw [hc]
      (conv => arg 1; whnf)
      rw [hce]
      (conv => arg 1; whnf)
      (first | refine go_map hcaps rfl ?_ | refine goT_map hcaps rfl ?_)
      (conv => arg 1; whnf)
      obtain ⟨z, hz1, hz2, hz3⟩ := hcall _ _ h
      (first | refine go_exi z ⟨levs_eq hz1.symm, hz2⟩ ?_ | refine goT_exi z ⟨levs_eq hz1.symm, hz2⟩ ?_)
      rw [hz3]
      (conv => arg 1; whnf)
      refine st1 ?_
      rcases e_bif hF with ⟨hb6, hF⟩ | ⟨hb6, hF⟩ <;> rw [hb6]
      · refine st1 ?_
        have hF := e_some hF
        have hq : some _ = some _ := hF
        cases hq
        exact en1
      · refine st1 ?_
        exact k_loopF (e_some hF) hx1 () [] ⟨sT, sS, by rfl, by rfl⟩
    · refine st1 ?_
      have hF := e_some hF
      have hq : some _ = some _ := hF
      cases hq
      exact en1


@[reducible] noncomputable def c_slices_ContainsFunc_L_Closure_Closure (C : FuncId → Option Con) : Con := conK F_slices_ContainsFunc_L_Closure_Closure (fun x => match x with | (a0, a1, g, caps) => [(V.sl (recs eTClosure (a0)) (a0).length), (V.fn g caps)]) (fun x => match x with | (a0, a1, g, caps) => Callable (ext C []) g caps (fun x => match x with | (q0) => [(V.agg (eTClosure q0))]) (fun r => (V.v (.bool (r)))) a1 ∧ Callable (ext C [(100, c_slices_IndexFunc_L_Closure_Closure C)]) g caps (fun x => match x with | (q0) => [(V.agg (eTClosure q0))]) (fun r => (V.v (.bool (r)))) a1) (fun r => (V.v (.bool (r))))
theorem h_slices_ContainsFunc_L_Closure_Closure {C : FuncId → Option Con} (hC : CtxOK Try.prog C) : Has Try.prog 85 (c_slices_ContainsFunc_L_Closure_Closure C) := by
  refine hasK (ext_cons (h_slices_IndexFunc_L_Closure_Closure hC) (ext_nil hC)) mix Try.func85 rfl (by kernel_rfl) ?_
  rintro ⟨a0, a1, g, caps⟩ r ⟨hc0, hcl⟩ hF
  obtain ⟨hcaps, c, hc, hce, hcall⟩ := id hcl
  refine ⟨of_decide_eq_true rfl, ?_⟩
  refine st1 ?_
  obtain ⟨_, h, hF⟩ := e_bind hF
  (first | refine go_map hcaps rfl ?_ | refine goT_map hcaps rfl ?_)
  (conv => arg 1; whnf)
  (first | refine g_hcall h lv1 (by exact hc0) ?_ | refine g_hcallT h lv1 (by exact hc0) ?_)
  (conv => arg 1; whnf)
  refine st1 ?_
  have hq : some _ = some _ := hF
  cases hq
  exact en1


@[reducible] noncomputable def c_river_Closed_1 : Con := conF F_river_Closed_1 (fun x => match x with | (a0, c0, c1) => [(V.agg (eTClosure a0)), (V.fptr [(V.v (.int .i64 (c0)))]), (V.fptr [(V.v (.int .i64 (c1)))])]) (fun r => (V.v (.bool (r))))
theorem h_river_Closed_1 : Has Try.prog 86 c_river_Closed_1 := by
  refine hasF (ctx_cons h_numbers_Within ctx_nil) mix Try.func86 rfl (by kernel_rfl) ?_
  rintro ⟨a0, c0, c1⟩ r hF
  refine ⟨of_decide_eq_true rfl, ?_⟩
  refine st1 ?_
  obtain ⟨_, h, hF⟩ := e_bind hF
  (first | refine g_call h lv1 ?_ | refine g_callT h lv1 ?_)
  (conv => arg 1; whnf)
  refine st1 ?_
  rcases e_bif hF with ⟨hb1, hF⟩ | ⟨hb1, hF⟩ <;> rw [hb1]
  · refine st1 ?_
    rcases e_bif hF with ⟨hb2, hF⟩ | ⟨hb2, hF⟩ <;> rw [hb2]
    · refine st1 ?_
      have hq : some _ = some _ := hF
      cases hq
      exact en1
    · refine st1 ?_
      have hq : some _ = some _ := hF
      cases hq
      exact en1
  · refine st1 ?_
    have hq : some _ = some _ := hF
    cases hq
    exact en1


@[reducible] noncomputable def c_river_Closed_2 : Con := conF F_river_Closed_2 (fun x => match x with | (a0, c0, c1) => [(V.agg (eTClosure a0)), (V.fptr [(V.v (.int .i64 (c0)))]), (V.fptr [(V.v (.int .i64 (c1)))])]) (fun r => (V.v (.bool (r))))
theorem h_river_Closed_2 : Has Try.prog 87 c_river_Closed_2 := by
  refine hasF (ctx_cons h_numbers_Within ctx_nil) mix Try.func87 rfl (by kernel_rfl) ?_
  rintro ⟨a0, c0, c1⟩ r hF
  refine ⟨of_decide_eq_true rfl, ?_⟩
  refine st1 ?_
  obtain ⟨_, h, hF⟩ := e_bind hF
  (first | refine g_call h lv1 ?_ | refine g_callT h lv1 ?_)
  (conv => arg 1; whnf)
  refine st1 ?_
  rcases e_bif hF with ⟨hb1, hF⟩ | ⟨hb1, hF⟩ <;> rw [hb1]
  · refine st1 ?_
    rcases e_bif hF with ⟨hb2, hF⟩ | ⟨hb2, hF⟩ <;> rw [hb2]
    · refine st1 ?_
      have hq : some _ = some _ := hF
      cases hq
      exact en1
    · refine st1 ?_
      have hq : some _ = some _ := hF
      cases hq
      exact en1
  · refine st1 ?_
    have hq : some _ = some _ := hF
    cases hq
    exact en1


@[reducible] noncomputable def c_river_Closed : Con := conF F_river_Closed (fun x => match x with | (a0, a1, a2, a3, a4) => [(V.agg (eTRiver a0)), (V.sl (recs (eS eTBounds) (a1)) (a1).length), (V.sl (recs eTClosure (a2)) (a2).length), (V.v (.int .i64 (a3))), (V.v (.int .i64 (a4)))]) (fun r => V.tup [(V.v (.bool (r.1))), (V.v (.bool (r.2.1))), (V.v (.int .i64 (r.2.2)))])
theorem h_river_Closed : Has Try.prog 47 c_river_Closed := by
  refine hasF (ctx_cons (h_slices_ContainsFunc_L_Closure_Closure (ctx_cons h_river_Closed_2 (ctx_cons h_river_Closed_1 ctx_nil))) (ctx_cons h_river_checkClosures (ctx_cons h_river_stream_findAt (ctx_cons h_river_stream_level (ctx_cons h_river_run ctx_nil))))) mix Try.func47 rfl (by kernel_rfl) ?_
  rintro ⟨a0, a1, a2, a3, a4⟩ r hF
  refine ⟨of_decide_eq_true rfl, ?_⟩
  refine st1 ?_
  obtain ⟨_, h, hF⟩ := e_bind hF
  (first | refine g_call h lv1 ?_ | refine g_callT h lv1 ?_)
  (conv => arg 1; whnf)
  refine st1 ?_
  rcases e_bif hF with ⟨hb1, hF⟩ | ⟨hb1, hF⟩ <;> rw [hb1]
  · refine st1 ?_
    have hq : some _ = some _ := hF
    cases hq
    exact en1
  · refine st1 ?_
    obtain ⟨_, h, hF⟩ := e_bind hF
    (first | refine g_call h lv1 ?_ | refine g_callT h lv1 ?_)
    (conv => arg 1; whnf)
    refine st1 ?_
    rcases e_bif hF with ⟨hb2, hF⟩ | ⟨hb2, hF⟩ <;> rw [hb2]
    · refine st1 ?_
      have hq : some _ = some _ := hF
      cases hq
      exact en1
    · refine st1 ?_
      obtain ⟨_, h, hF⟩ := e_bind hF
      (first | refine g_call h lv1 ?_ | refine g_callT h lv1 ?_)
      (conv => arg 1; whnf)
      refine st1 ?_
      rcases e_bif hF with ⟨hb3, hF⟩ | ⟨hb3, hF⟩ <;> rw [hb3]
      · refine st1 ?_
        have hq : some _ = some _ := hF
        cases hq
        exact en1
      · refine st1 ?_
        obtain ⟨_, h, hF⟩ := e_bind hF
        (first | refine g_call h lv1 ?_ | refine g_callT h lv1 ?_)
        (conv => arg 1; whnf)
        refine st1 ?_
        rcases e_bif hF with ⟨hb4, hF⟩ | ⟨hb4, hF⟩ <;> rw [hb4]
        · refine st1 ?_
          rcases e_bif hF with ⟨hb5, hF⟩ | ⟨hb5, hF⟩ <;> rw [hb5]
          · refine st1 ?_
            have hq : some _ = some _ := hF
            cases hq
            exact en1
          · refine st1 ?_
            obtain ⟨_, h, hF⟩ := e_bind hF
            (first | refine g_hcall h lv1 ⟨callable_conF rfl rfl (fun _ => rfl), callable_conF rfl rfl (fun _ => rfl)⟩ ?_ | refine g_hcallT h lv1 ⟨callable_conF rfl rfl (fun _ => rfl), callable_conF rfl rfl (fun _ => rfl)⟩ ?_)
            (conv => arg 1; whnf)
            refine st1 ?_
            have hq : some _ = some _ := hF
            cases hq
            exact en1
        · refine st1 ?_
          obtain ⟨_, h, hF⟩ := e_bind hF
          (first | refine g_hcall h lv1 ⟨callable_conF rfl rfl (fun _ => rfl), callable_conF rfl rfl (fun _ => rfl)⟩ ?_ | refine g_hcallT h lv1 ⟨callable_conF rfl rfl (fun _ => rfl), callable_conF rfl rfl (fun _ => rfl)⟩ ?_)
          (conv => arg 1; whnf)
          refine st1 ?_
          rcases e_bif hF with ⟨hb6, hF⟩ | ⟨hb6, hF⟩ <;> rw [hb6]
          · refine st1 ?_
            have hq : some _ = some _ := hF
            cases hq
            exact en1
          · refine st1 ?_
            obtain ⟨_, h, hF⟩ := e_bind hF
            (first | refine g_hcall h lv1 ⟨callable_conF rfl rfl (fun _ => rfl), callable_conF rfl rfl (fun _ => rfl)⟩ ?_ | refine g_hcallT h lv1 ⟨callable_conF rfl rfl (fun _ => rfl), callable_conF rfl rfl (fun _ => rfl)⟩ ?_)
            (conv => arg 1; whnf)
            refine st1 ?_
            have hq : some _ = some _ := hF
            cases hq
            exact en1


@[reducible] noncomputable def c_thalwegref01_Closures : Con := conF F_thalwegref01_Closures (fun x => match x with | (a0, a1) => [(V.agg (eTRiver a0)), (V.sl (recs eTClosure (a1)) (a1).length)]) (fun r => (V.v (.int .i64 (r))))
theorem h_thalwegref01_Closures : Has Try.prog 48 c_thalwegref01_Closures := by
  refine hasF (ctx_cons h_thalwegref01_Places (ctx_cons h_thalwegref01_In (ctx_cons h_thalwegref01_Valid ctx_nil))) mix Try.func48 rfl (by kernel_rfl) ?_
  rintro ⟨a0, a1⟩ r hF
  refine ⟨of_decide_eq_true rfl, ?_⟩
  refine st1 ?_
  rcases e_bif hF with ⟨hb1, hF⟩ | ⟨hb1, hF⟩ <;> rw [hb1]
  · refine st1 ?_
    have hq : some _ = some _ := hF
    cases hq
    exact en1
  · refine st1 ?_
    refine st_loopF (e_assoc hF) () [(0, _)] ⟨sT, sS, by rfl, by rfl⟩ ?_
    · rintro n _ _ x hx1 hF
      (conv => arg 7; whnf); (conv => arg 8; whnf); (conv => arg 9; whnf)
      refine st1 ?_
      rcases e_bif hF with ⟨hb12, hF⟩ | ⟨hb12, hF⟩ <;> rw [hb12]
      · refine st1 ?_
        obtain ⟨_, h, hF⟩ := e_bind hF
        (first | refine o_ia (enc := eTClosure) (s := 6) h (fun _ => rfl) (by decide) ?_ | refine o_iaT (enc := eTClosure) (s := 6) h (fun _ => rfl) (by decide) ?_)
        intro _
        refine st1 ?_
        obtain ⟨_, h, hF⟩ := e_bind hF
        (first | refine g_call h lv1 ?_ | refine g_callT h lv1 ?_)
        (conv => arg 1; whnf)
        refine st1 ?_
        obtain ⟨_, h, hF⟩ := e_bind hF
        (first | refine g_call h lv1 ?_ | refine g_callT h lv1 ?_)
        (conv => arg 1; whnf)
        refine st1 ?_
        rcases e_bif hF with ⟨hb13, hF⟩ | ⟨hb13, hF⟩ <;> rw [hb13]
        · refine st1 ?_
          have hF := e_some hF
          have hq : some _ = some _ := hF
          cases hq
          exact en1
        · refine st1 ?_
          obtain ⟨_, h, hF⟩ := e_bind hF
          (first | refine g_call h lv1 ?_ | refine g_callT h lv1 ?_)
          (conv => arg 1; whnf)
          refine st1 ?_
          obtain ⟨_, h, hF⟩ := e_bind hF
          (first | refine g_call h lv1 ?_ | refine g_callT h lv1 ?_)
          (conv => arg 1; whnf)
          refine st1 ?_
          rcases e_bif hF with ⟨hb14, hF⟩ | ⟨hb14, hF⟩ <;> rw [hb14]
          · refine st1 ?_
            have hF := e_some hF
            have hq : some _ = some _ := hF
            cases hq
            exact en1
          · refine st1 ?_
            obtain ⟨_, h, hF⟩ := e_bind hF
            (first | refine g_call h lv1 ?_ | refine g_callT h lv1 ?_)
            (conv => arg 1; whnf)
            refine st1 ?_
            rcases e_bif hF with ⟨hb15, hF⟩ | ⟨hb15, hF⟩ <;> rw [hb15]
            · refine st1 ?_
              have hF := e_some hF
              have hq : some _ = some _ := hF
              cases hq
              exact en1
            · refine st1 ?_
              obtain ⟨_, h, hF⟩ := e_bind hF
              (first | refine g_call h lv1 ?_ | refine g_callT h lv1 ?_)
              (conv => arg 1; whnf)
              refine st1 ?_
              rcases e_bif hF with ⟨hb16, hF⟩ | ⟨hb16, hF⟩ <;> rw [hb16]
              · refine st1 ?_
                have hF := e_some hF
                have hq : some _ = some _ := hF
                cases hq
                exact en1
              · refine st1 ?_
                exact k_loopF (e_some hF) hx1 () [(0, _)] ⟨sT, sS, by rfl, by rfl⟩
      · refine st1 ?_
        have hF := e_some hF
        have hq : some _ = some _ := hF
        cases hq
        exact en1


@[reducible] noncomputable def c_thalwegref01_Floor : Con := conF F_thalwegref01_Floor (fun x => match x with | (a0, a1) => [(V.v (.int .i64 (a0))), (V.v (.int .i64 (a1)))]) (fun r => (V.v (.int .i64 (r))))
theorem h_thalwegref01_Floor : Has Try.prog 72 c_thalwegref01_Floor := by
  refine hasF ctx_nil mix Try.func72 rfl (by kernel_rfl) ?_
  rintro ⟨a0, a1⟩ r hF
  refine ⟨of_decide_eq_true rfl, ?_⟩
  refine st1 ?_
  obtain ⟨_, h, hF⟩ := e_bind hF
  (first | refine go_req (nz_ne h) ?_ | refine goT_req (nz_ne h) ?_)
  (conv => arg 1; whnf)
  refine st1 ?_
  rcases e_bif hF with ⟨hb1, hF⟩ | ⟨hb1, hF⟩ <;> rw [hb1]
  · refine st1 ?_
    have hq : some _ = some _ := hF
    cases hq
    exact en1
  · refine st1 ?_
    have hq : some _ = some _ := hF
    cases hq
    exact en1


@[reducible] noncomputable def c_thalwegref01_Ceil : Con := conF F_thalwegref01_Ceil (fun x => match x with | (a0, a1) => [(V.v (.int .i64 (a0))), (V.v (.int .i64 (a1)))]) (fun r => (V.v (.int .i64 (r))))
theorem h_thalwegref01_Ceil : Has Try.prog 73 c_thalwegref01_Ceil := by
  refine hasF ctx_nil mix Try.func73 rfl (by kernel_rfl) ?_
  rintro ⟨a0, a1⟩ r hF
  refine ⟨of_decide_eq_true rfl, ?_⟩
  refine st1 ?_
  obtain ⟨_, h, hF⟩ := e_bind hF
  (first | refine go_req (nz_ne h) ?_ | refine goT_req (nz_ne h) ?_)
  (conv => arg 1; whnf)
  refine st1 ?_
  rcases e_bif hF with ⟨hb1, hF⟩ | ⟨hb1, hF⟩ <;> rw [hb1]
  · refine st1 ?_
    have hq : some _ = some _ := hF
    cases hq
    exact en1
  · refine st1 ?_
    have hq : some _ = some _ := hF
    cases hq
    exact en1


@[reducible] noncomputable def c_thalwegref01_Curve : Con := conF F_thalwegref01_Curve (fun x => match x with | (a0, a1, a2) => [(V.agg (eTReach a0)), (V.v (.int .i64 (a1))), (V.v (.bool (a2)))]) (fun r => (V.v (.int .i64 (r))))
theorem h_thalwegref01_Curve : Has Try.prog 65 c_thalwegref01_Curve := by
  refine hasF (ctx_cons h_thalwegref01_Ceil (ctx_cons h_thalwegref01_Floor ctx_nil)) mix Try.func65 rfl (by kernel_rfl) ?_
  rintro ⟨a0, a1, a2⟩ r hF
  refine ⟨of_decide_eq_true rfl, ?_⟩
  refine st1 ?_
  obtain ⟨_, h, hF⟩ := e_bind hF
  (first | refine o_ia (enc := eTRateRow) (s := 2) h (fun _ => rfl) (by decide) ?_ | refine o_iaT (enc := eTRateRow) (s := 2) h (fun _ => rfl) (by decide) ?_)
  intro _
  refine st1 ?_
  obtain ⟨_, h, hF⟩ := e_bind hF
  (first | refine o_ia (enc := eTRateRow) (s := 2) h (fun _ => rfl) (by decide) ?_ | refine o_iaT (enc := eTRateRow) (s := 2) h (fun _ => rfl) (by decide) ?_)
  intro _
  refine st1 ?_
  rcases e_bif hF with ⟨hb1, hF⟩ | ⟨hb1, hF⟩ <;> rw [hb1]
  · refine st1 ?_
    obtain ⟨_, h, hF⟩ := e_bind hF
    (first | refine o_ia (enc := eTRateRow) (s := 2) h (fun _ => rfl) (by decide) ?_ | refine o_iaT (enc := eTRateRow) (s := 2) h (fun _ => rfl) (by decide) ?_)
    intro _
    refine st1 ?_
    have hq : some _ = some _ := hF
    cases hq
    exact en1
  · refine st1 ?_
    rcases e_bif hF with ⟨hb2, hF⟩ | ⟨hb2, hF⟩ <;> rw [hb2]
    · refine st1 ?_
      have hq : some _ = some _ := hF
      cases hq
      exact en1
    · refine st1 ?_
      refine st_loopF (e_assoc hF) () [(0, _)] ⟨sT, sS, by rfl, by rfl⟩ ?_
      · rintro n _ _ x hx1 hF
        (conv => arg 7; whnf); (conv => arg 8; whnf); (conv => arg 9; whnf)
        refine st1 ?_
        obtain ⟨_, h, hF⟩ := e_bind hF
        (first | refine o_ia (enc := eTRateRow) (s := 2) h (fun _ => rfl) (by decide) ?_ | refine o_iaT (enc := eTRateRow) (s := 2) h (fun _ => rfl) (by decide) ?_)
        intro _
        refine st1 ?_
        rcases e_bif hF with ⟨hb5, hF⟩ | ⟨hb5, hF⟩ <;> rw [hb5]
        · refine st1 ?_
          exact k_loopF (e_some hF) hx1 () [(0, _)] ⟨sT, sS, by rfl, by rfl⟩
        · refine st1 ?_
          have hF := e_some hF
          obtain ⟨_, h, hF⟩ := e_bind hF
          (first | refine o_ia (enc := eTRateRow) (s := 2) h (fun _ => rfl) (by decide) ?_ | refine o_iaT (enc := eTRateRow) (s := 2) h (fun _ => rfl) (by decide) ?_)
          intro _
          refine st1 ?_
          obtain ⟨_, h, hF⟩ := e_bind hF
          (first | refine o_ia (enc := eTRateRow) (s := 2) h (fun _ => rfl) (by decide) ?_ | refine o_iaT (enc := eTRateRow) (s := 2) h (fun _ => rfl) (by decide) ?_)
          intro _
          refine st1 ?_
          rcases e_bif hF with ⟨hb6, hF⟩ | ⟨hb6, hF⟩ <;> rw [hb6]
          · refine st1 ?_
            obtain ⟨_, h, hF⟩ := e_bind hF
            (first | refine g_call h lv1 ?_ | refine g_callT h lv1 ?_)
            (conv => arg 1; whnf)
            refine st1 ?_
            have hq : some _ = some _ := hF
            cases hq
            exact en1
          · refine st1 ?_
            obtain ⟨_, h, hF⟩ := e_bind hF
            (first | refine g_call h lv1 ?_ | refine g_callT h lv1 ?_)
            (conv => arg 1; whnf)
            refine st1 ?_
            have hq : some _ = some _ := hF
            cases hq
            exact en1


@[reducible] noncomputable def c_thalwegref01_Level : Con := conF F_thalwegref01_Level (fun x => match x with | (a0, a1) => [(V.agg (eTReach a0)), (V.agg (eTBounds a1))]) (fun r => (V.agg (eTBounds r)))
theorem h_thalwegref01_Level : Has Try.prog 25 c_thalwegref01_Level := by
  refine hasF (ctx_cons h_thalwegref01_Curve ctx_nil) mix Try.func25 rfl (by kernel_rfl) ?_
  rintro ⟨a0, a1⟩ r hF
  refine ⟨of_decide_eq_true rfl, ?_⟩
  refine st1 ?_
  obtain ⟨_, h, hF⟩ := e_bind hF
  (first | refine g_call h lv1 ?_ | refine g_callT h lv1 ?_)
  (conv => arg 1; whnf)
  refine st1 ?_
  obtain ⟨_, h, hF⟩ := e_bind hF
  (first | refine g_call h lv1 ?_ | refine g_callT h lv1 ?_)
  (conv => arg 1; whnf)
  refine st1 ?_
  have hq : some _ = some _ := hF
  cases hq
  exact en1


@[reducible] noncomputable def c_thalwegref01_Of : Con := conF F_thalwegref01_Of (fun x => match x with | (a0, a1) => [(V.agg (eTRiver a0)), (V.v (.int .i64 (a1)))]) (fun r => (V.v (.int .i64 (r))))
theorem h_thalwegref01_Of : Has Try.prog 81 c_thalwegref01_Of := by
  refine hasF ctx_nil mix Try.func81 rfl (by kernel_rfl) ?_
  rintro ⟨a0, a1⟩ r hF
  refine ⟨of_decide_eq_true rfl, ?_⟩
  refine st1 ?_
  refine st_loopF (e_assoc hF) () [(0, _)] ⟨sT, sS, by rfl, by rfl⟩ ?_
  · rintro n ⟨_, _⟩ _ x hx1 hF
    (conv => arg 7; whnf); (conv => arg 8; whnf); (conv => arg 9; whnf)
    refine st1 ?_
    obtain ⟨_, h, hF⟩ := e_bind hF
    (first | refine o_ia (enc := eTReach) (s := 9) h (fun _ => rfl) (by decide) ?_ | refine o_iaT (enc := eTReach) (s := 9) h (fun _ => rfl) (by decide) ?_)
    intro _
    refine st1 ?_
    rcases e_bif hF with ⟨hb3, hF⟩ | ⟨hb3, hF⟩ <;> rw [hb3]
    · refine st1 ?_
      obtain ⟨_, h, hF⟩ := e_bind hF
      (first | refine o_ia (enc := eTReach) (s := 9) h (fun _ => rfl) (by decide) ?_ | refine o_iaT (enc := eTReach) (s := 9) h (fun _ => rfl) (by decide) ?_)
      intro _
      refine st1 ?_
      exact k_loopF (e_some hF) hx1 () [(0, _)] ⟨sT, sS, by rfl, by rfl⟩
    · refine st1 ?_
      have hF := e_some hF
      have hq : some _ = some _ := hF
      cases hq
      exact en1


@[reducible] noncomputable def c_thalwegref01_Closed : Con := conF F_thalwegref01_Closed (fun x => match x with | (a0, a1, a2, a3, a4) => [(V.agg (eTRiver a0)), (V.sl (recs (eS eTBounds) (a1)) (a1).length), (V.sl (recs eTClosure (a2)) (a2).length), (V.v (.int .i64 (a3))), (V.v (.int .i64 (a4)))]) (fun r => V.tup [(V.v (.bool (r.1))), (V.v (.bool (r.2)))])
theorem h_thalwegref01_Closed : Has Try.prog 49 c_thalwegref01_Closed := by
  refine hasF (ctx_cons h_thalwegref01_Of (ctx_cons h_thalwegref01_Flow (ctx_cons h_thalwegref01_In (ctx_cons h_thalwegref01_Level ctx_nil)))) mix Try.func49 rfl (by kernel_rfl) ?_
  rintro ⟨a0, a1, a2, a3, a4⟩ r hF
  refine ⟨of_decide_eq_true rfl, ?_⟩
  refine st1 ?_
  obtain ⟨_, h, hF⟩ := e_bind hF
  (first | refine g_call h lv1 ?_ | refine g_callT h lv1 ?_)
  (conv => arg 1; whnf)
  refine st1 ?_
  obtain ⟨_, h, hF⟩ := e_bind hF
  (first | refine o_ia (enc := eTReach) (s := 9) h (fun _ => rfl) (by decide) ?_ | refine o_iaT (enc := eTReach) (s := 9) h (fun _ => rfl) (by decide) ?_)
  intro _
  refine st1 ?_
  obtain ⟨_, h, hF⟩ := e_bind hF
  (first | refine g_call h lv1 ?_ | refine g_callT h lv1 ?_)
  (conv => arg 1; whnf)
  refine st1 ?_
  obtain ⟨_, h, hF⟩ := e_bind hF
  (first | refine g_call h lv1 ?_ | refine g_callT h lv1 ?_)
  (conv => arg 1; whnf)
  refine st1 ?_
  obtain ⟨_, h, hF⟩ := e_bind hF
  (first | refine o_ia (enc := eTReach) (s := 9) h (fun _ => rfl) (by decide) ?_ | refine o_iaT (enc := eTReach) (s := 9) h (fun _ => rfl) (by decide) ?_)
  intro _
  refine st1 ?_
  obtain ⟨_, h, hF⟩ := e_bind hF
  (first | refine o_ia (enc := eTReach) (s := 9) h (fun _ => rfl) (by decide) ?_ | refine o_iaT (enc := eTReach) (s := 9) h (fun _ => rfl) (by decide) ?_)
  intro _
  refine st1 ?_
  refine st_loopF (e_assoc hF) () [] ⟨sT, sS, by rfl, by rfl⟩ ?_
  · rintro n ⟨_, _, _⟩ _ x hx1 hF
    (conv => arg 7; whnf); (conv => arg 8; whnf); (conv => arg 9; whnf)
    refine st1 ?_
    rcases e_bif hF with ⟨hb21, hF⟩ | ⟨hb21, hF⟩ <;> rw [hb21]
    · refine st1 ?_
      obtain ⟨_, h, hF⟩ := e_bind hF
      (first | refine o_ia (enc := eTClosure) (s := 6) h (fun _ => rfl) (by decide) ?_ | refine o_iaT (enc := eTClosure) (s := 6) h (fun _ => rfl) (by decide) ?_)
      intro _
      refine st1 ?_
      obtain ⟨_, h, hF⟩ := e_bind hF
      (first | refine g_call h lv1 ?_ | refine g_callT h lv1 ?_)
      (conv => arg 1; whnf)
      refine st1 ?_
      rcases e_bif hF with ⟨hb22, hF⟩ | ⟨hb22, hF⟩ <;> rw [hb22]
      · refine st1 ?_
        exact k_loopF (e_some hF) hx1 () [] ⟨sT, sS, by rfl, by rfl⟩
      · refine st1 ?_
        rcases e_bif hF with ⟨hb23, hF⟩ | ⟨hb23, hF⟩ <;> rw [hb23]
        · refine st1 ?_
          rcases e_bif hF with ⟨hb24, hF⟩ | ⟨hb24, hF⟩ <;> rw [hb24]
          · refine st1 ?_
            exact k_loopF (e_some hF) hx1 () [] ⟨sT, sS, by rfl, by rfl⟩
          · refine st1 ?_
            rcases e_bif hF with ⟨hb25, hF⟩ | ⟨hb25, hF⟩ <;> rw [hb25]
            · refine st1 ?_
              exact k_loopF (e_some hF) hx1 () [] ⟨sT, sS, by rfl, by rfl⟩
            · refine st1 ?_
              exact k_loopF (e_some hF) hx1 () [] ⟨sT, sS, by rfl, by rfl⟩
        · refine st1 ?_
          rcases e_bif hF with ⟨hb26, hF⟩ | ⟨hb26, hF⟩ <;> rw [hb26]
          · refine st1 ?_
            rcases e_bif hF with ⟨hb27, hF⟩ | ⟨hb27, hF⟩ <;> rw [hb27]
            · refine st1 ?_
              exact k_loopF (e_some hF) hx1 () [] ⟨sT, sS, by rfl, by rfl⟩
            · refine st1 ?_
              rcases e_bif hF with ⟨hb28, hF⟩ | ⟨hb28, hF⟩ <;> rw [hb28]
              · refine st1 ?_
                exact k_loopF (e_some hF) hx1 () [] ⟨sT, sS, by rfl, by rfl⟩
              · refine st1 ?_
                exact k_loopF (e_some hF) hx1 () [] ⟨sT, sS, by rfl, by rfl⟩
          · refine st1 ?_
            rcases e_bif hF with ⟨hb29, hF⟩ | ⟨hb29, hF⟩ <;> rw [hb29]
            · refine st1 ?_
              exact k_loopF (e_some hF) hx1 () [] ⟨sT, sS, by rfl, by rfl⟩
            · refine st1 ?_
              rcases e_bif hF with ⟨hb30, hF⟩ | ⟨hb30, hF⟩ <;> rw [hb30]
              · refine st1 ?_
                exact k_loopF (e_some hF) hx1 () [] ⟨sT, sS, by rfl, by rfl⟩
              · refine st1 ?_
                exact k_loopF (e_some hF) hx1 () [] ⟨sT, sS, by rfl, by rfl⟩
    · refine st1 ?_
      have hF := e_some hF
      have hq : some _ = some _ := hF
      cases hq
      exact en1


@[reducible] noncomputable def c_thalweglaw01_RiverCloses : Con := conF F_thalweglaw01_RiverCloses (fun x => match x with | (a0, a1, a2) => [(V.agg (eTthalweglaw01_Forecast a0)), (V.sl (recs eTClosure (a1)) (a1).length), (V.agg (eTanon85 a2))]) (fun r => (V.v (.bool (r))))
theorem fl_thalweglaw01_RiverCloses_89 : flatOf Try.prog 9 89 = some [true, true, true, true, true, true] := by kernel_rfl
theorem eg_thalweglaw01_RiverCloses_89 : Try.prog.eqGuardType Try.prog.depth 89 = false := by kernel_rfl
theorem ag_thalweglaw01_RiverCloses_89 : aggOf Try.prog 89 = some true := by kernel_rfl
theorem h_thalweglaw01_RiverCloses : Has Try.prog 9 c_thalweglaw01_RiverCloses := by
  refine hasF (ctx_cons h_thalwegref01_Closed (ctx_cons h_thalwegref01_Closures (ctx_cons h_river_Closed (ctx_cons h_thalwegref01_Places (ctx_cons h_thalwegref01_In (ctx_cons h_thalwegref01_Start (ctx_cons h_thalweglaw01_forecast (ctx_cons h_thalweglaw01_copied (ctx_cons h_thalweglaw01_known (ctx_cons h_thalweglaw01_large ctx_nil)))))))))) mix Try.func9 rfl (by kernel_rfl) ?_
  rintro ⟨a0, a1, a2⟩ r hF
  refine ⟨of_decide_eq_true rfl, ?_⟩
  refine st1 ?_
  obtain ⟨_, h, hF⟩ := e_bind hF
  (first | refine g_call h lv1 ?_ | refine g_callT h lv1 ?_)
  (conv => arg 1; whnf)
  refine st1 ?_
  rcases e_bif hF with ⟨hb1, hF⟩ | ⟨hb1, hF⟩ <;> rw [hb1]
  · refine st1 ?_
    obtain ⟨_, h, hF⟩ := e_bind hF
    (first | refine g_call h lv1 ?_ | refine g_callT h lv1 ?_)
    (conv => arg 1; whnf)
    refine st1 ?_
    have hq : some _ = some _ := hF
    cases hq
    exact en1
  · refine st1 ?_
    rcases e_bif hF with ⟨hb2, hF⟩ | ⟨hb2, hF⟩ <;> rw [hb2]
    · refine st1 ?_
      obtain ⟨_, h, hF⟩ := e_bind hF
      (first | refine g_call h lv1 ?_ | refine g_callT h lv1 ?_)
      (conv => arg 1; whnf)
      refine st1 ?_
      have hq : some _ = some _ := hF
      cases hq
      exact en1
    · refine st1 ?_
      obtain ⟨_, h, hF⟩ := e_bind hF
      (first | refine o_app (enc := eTClosure) (s := 6) h (fun _ => rfl) ?_ | refine o_appT (enc := eTClosure) (s := 6) h (fun _ => rfl) ?_)
      refine st1 ?_
      obtain ⟨_, h, hF⟩ := e_bind hF
      (first | refine g_call h lv1 ?_ | refine g_callT h lv1 ?_)
      (conv => arg 1; whnf)
      refine st1 ?_
      obtain ⟨_, h, hF⟩ := e_bind hF
      (first | refine g_call h lv1 ?_ | refine g_callT h lv1 ?_)
      (conv => arg 1; whnf)
      refine st1 ?_
      obtain ⟨_, h, hF⟩ := e_bind hF
      (first | refine g_call h lv1 ?_ | refine g_callT h lv1 ?_)
      (conv => arg 1; whnf)
      refine st1 ?_
      refine st_loopF (e_assoc hF) _ [(0, _), (1, _), (12, _)] ⟨sT, sS, by rfl, by rfl⟩ ?_
      · rintro n _ _ x hx1 hF
        (conv => arg 7; whnf); (conv => arg 8; whnf); (conv => arg 9; whnf)
        refine st1 ?_
        rcases e_bif hF with ⟨hb7, hF⟩ | ⟨hb7, hF⟩ <;> rw [hb7]
        · refine st1 ?_
          obtain ⟨_, hi13, hF⟩ := e_bind hF
          (first | refine go_req (oidx_ok hi13 (by decide)) ?_ | refine goT_req (oidx_ok hi13 (by decide)) ?_)
          (conv => arg 1; whnf)
          refine st1 ?_
          (first | refine o_ldA (enc := eTClosure) (s := 6) hi13 (fun _ => rfl) (by decide) ?_ | refine o_ldB (enc := eTClosure) (s := 6) hi13 (fun _ => rfl) (by decide) ?_ | refine o_ldC (enc := eTClosure) (s := 6) hi13 (fun _ => rfl) (by decide) ?_ | refine o_ldD (enc := eTClosure) (s := 6) hi13 (fun _ => rfl) (by decide) ?_ | refine o_ldAT (enc := eTClosure) (s := 6) hi13 (fun _ => rfl) (by decide) ?_ | refine o_ldBT (enc := eTClosure) (s := 6) hi13 (fun _ => rfl) (by decide) ?_ | refine o_ldCT (enc := eTClosure) (s := 6) hi13 (fun _ => rfl) (by decide) ?_ | refine o_ldDT (enc := eTClosure) (s := 6) hi13 (fun _ => rfl) (by decide) ?_)
          (conv => arg 1; whnf)
          refine st1 ?_
          obtain ⟨_, h, hF⟩ := e_bind hF
          (first | refine o_ia (enc := eTClosure) (s := 6) h (fun _ => rfl) (by decide) ?_ | refine o_iaT (enc := eTClosure) (s := 6) h (fun _ => rfl) (by decide) ?_)
          intro _
          refine st1 ?_
          rw [fl_thalweglaw01_RiverCloses_89, eg_thalweglaw01_RiverCloses_89, ag_thalweglaw01_RiverCloses_89]
          (conv => arg 1; whnf)
          refine st1 ?_
          rcases e_bif hF with ⟨hb8, hF⟩ | ⟨hb8, hF⟩ <;> rw [hb8]
          · refine st1 ?_
            have hF := e_some hF
            have hq : some _ = some _ := hF
            cases hq
            exact en1
          · refine st1 ?_
            exact k_loopF (e_some hF) hx1 _ [(0, _), (1, _), (12, _)] ⟨sT, sS, by rfl, by rfl⟩
        · refine st1 ?_
          have hF := e_some hF
          obtain ⟨_, h, hF⟩ := e_bind hF
          (first | refine g_call h lv1 ?_ | refine g_callT h lv1 ?_)
          (conv => arg 1; whnf)
          refine st1 ?_
          rcases e_bif hF with ⟨hb9, hF⟩ | ⟨hb9, hF⟩ <;> rw [hb9]
          · refine st1 ?_
            obtain ⟨_, h, hF⟩ := e_bind hF
            (first | refine g_call h lv1 ?_ | refine g_callT h lv1 ?_)
            (conv => arg 1; whnf)
            refine st1 ?_
            rcases e_bif hF with ⟨hb10, hF⟩ | ⟨hb10, hF⟩ <;> rw [hb10]
            · refine st1 ?_
              obtain ⟨_, h, hF⟩ := e_bind hF
              (first | refine g_call h lv1 ?_ | refine g_callT h lv1 ?_)
              (conv => arg 1; whnf)
              refine st1 ?_
              obtain ⟨_, h, hF⟩ := e_bind hF
              (first | refine g_call h lv1 ?_ | refine g_callT h lv1 ?_)
              (conv => arg 1; whnf)
              refine st1 ?_
              rcases e_bif hF with ⟨hb11, hF⟩ | ⟨hb11, hF⟩ <;> rw [hb11]
              · refine st1 ?_
                rcases e_bif hF with ⟨hb12, hF⟩ | ⟨hb12, hF⟩ <;> rw [hb12]
                · refine st1 ?_
                  rcases e_bif hF with ⟨hb13, hF⟩ | ⟨hb13, hF⟩ <;> rw [hb13]
                  · refine st1 ?_
                    rcases e_bif hF with ⟨hb14, hF⟩ | ⟨hb14, hF⟩ <;> rw [hb14]
                    · refine st1 ?_
                      obtain ⟨_, h, hF⟩ := e_bind hF
                      (first | refine g_call h lv1 ?_ | refine g_callT h lv1 ?_)
                      (conv => arg 1; whnf)
                      refine st1 ?_
                      have hq : some _ = some _ := hF
                      cases hq
                      exact en1
                    · refine st1 ?_
                      have hq : some _ = some _ := hF
                      cases hq
                      exact en1
                  · refine st1 ?_
                    have hq : some _ = some _ := hF
                    cases hq
                    exact en1
                · refine st1 ?_
                  have hq : some _ = some _ := hF
                  cases hq
                  exact en1
              · refine st1 ?_
                rw [hb10]
                refine st1 ?_
                obtain ⟨_, h, hF⟩ := e_bind hF
                (first | refine o_ia (enc := (eS eTBounds)) (s := 1) h (fun _ => rfl) (by decide) ?_ | refine o_iaT (enc := (eS eTBounds)) (s := 1) h (fun _ => rfl) (by decide) ?_)
                intro _
                refine st1 ?_
                obtain ⟨_, h, hF⟩ := e_bind hF
                (first | refine g_call h lv1 ?_ | refine g_callT h lv1 ?_)
                (conv => arg 1; whnf)
                refine st1 ?_
                rcases e_bif hF with ⟨hb15, hF⟩ | ⟨hb15, hF⟩ <;> rw [hb15]
                · refine st1 ?_
                  rcases e_bif hF with ⟨hb16, hF⟩ | ⟨hb16, hF⟩ <;> rw [hb16]
                  · refine st1 ?_
                    rcases e_bif hF with ⟨hb17, hF⟩ | ⟨hb17, hF⟩ <;> rw [hb17]
                    · refine st1 ?_
                      rcases e_bif hF with ⟨hb18, hF⟩ | ⟨hb18, hF⟩ <;> rw [hb18]
                      · refine st1 ?_
                        obtain ⟨_, h, hF⟩ := e_bind hF
                        (first | refine g_call h lv1 ?_ | refine g_callT h lv1 ?_)
                        (conv => arg 1; whnf)
                        refine st1 ?_
                        have hq : some _ = some _ := hF
                        cases hq
                        exact en1
                      · refine st1 ?_
                        have hq : some _ = some _ := hF
                        cases hq
                        exact en1
                    · refine st1 ?_
                      have hq : some _ = some _ := hF
                      cases hq
                      exact en1
                  · refine st1 ?_
                    have hq : some _ = some _ := hF
                    cases hq
                    exact en1
                · refine st1 ?_
                  rw [(eqT_ne hb10)]
                  refine st1 ?_
                  obtain ⟨_, h, hF⟩ := e_bind hF
                  (first | refine g_call h lv1 ?_ | refine g_callT h lv1 ?_)
                  (conv => arg 1; whnf)
                  refine st1 ?_
                  rcases e_bif hF with ⟨hb19, hF⟩ | ⟨hb19, hF⟩ <;> rw [hb19]
                  · refine st1 ?_
                    rcases e_bif hF with ⟨hb20, hF⟩ | ⟨hb20, hF⟩ <;> rw [hb20]
                    · refine st1 ?_
                      rcases e_bif hF with ⟨hb21, hF⟩ | ⟨hb21, hF⟩ <;> rw [hb21]
                      · refine st1 ?_
                        obtain ⟨_, h, hF⟩ := e_bind hF
                        (first | refine g_call h lv1 ?_ | refine g_callT h lv1 ?_)
                        (conv => arg 1; whnf)
                        refine st1 ?_
                        have hq : some _ = some _ := hF
                        cases hq
                        exact en1
                      · refine st1 ?_
                        have hq : some _ = some _ := hF
                        cases hq
                        exact en1
                    · refine st1 ?_
                      have hq : some _ = some _ := hF
                      cases hq
                      exact en1
                  · refine st1 ?_
                    have hq : some _ = some _ := hF
                    cases hq
                    exact en1
            · refine st1 ?_
              rw [hb10]
              refine st1 ?_
              rw [(eqF_ne hb10)]
              refine st1 ?_
              rcases e_bif hF with ⟨hb22, hF⟩ | ⟨hb22, hF⟩ <;> rw [hb22]
              · refine st1 ?_
                rcases e_bif hF with ⟨hb23, hF⟩ | ⟨hb23, hF⟩ <;> rw [hb23]
                · refine st1 ?_
                  rcases e_bif hF with ⟨hb24, hF⟩ | ⟨hb24, hF⟩ <;> rw [hb24]
                  · refine st1 ?_
                    obtain ⟨_, h, hF⟩ := e_bind hF
                    (first | refine g_call h lv1 ?_ | refine g_callT h lv1 ?_)
                    (conv => arg 1; whnf)
                    refine st1 ?_
                    have hq : some _ = some _ := hF
                    cases hq
                    exact en1
                  · refine st1 ?_
                    have hq : some _ = some _ := hF
                    cases hq
                    exact en1
                · refine st1 ?_
                  have hq : some _ = some _ := hF
                  cases hq
                  exact en1
              · refine st1 ?_
                have hq : some _ = some _ := hF
                cases hq
                exact en1
          · refine st1 ?_
            rw [hb9]
            refine st1 ?_
            rw [hb9]
            refine st1 ?_
            rw [(eqF_ne hb9)]
            refine st1 ?_
            rcases e_bif hF with ⟨hb25, hF⟩ | ⟨hb25, hF⟩ <;> rw [hb25]
            · refine st1 ?_
              rcases e_bif hF with ⟨hb26, hF⟩ | ⟨hb26, hF⟩ <;> rw [hb26]
              · refine st1 ?_
                rcases e_bif hF with ⟨hb27, hF⟩ | ⟨hb27, hF⟩ <;> rw [hb27]
                · refine st1 ?_
                  obtain ⟨_, h, hF⟩ := e_bind hF
                  (first | refine g_call h lv1 ?_ | refine g_callT h lv1 ?_)
                  (conv => arg 1; whnf)
                  refine st1 ?_
                  have hq : some _ = some _ := hF
                  cases hq
                  exact en1
                · refine st1 ?_
                  have hq : some _ = some _ := hF
                  cases hq
                  exact en1
              · refine st1 ?_
                have hq : some _ = some _ := hF
                cases hq
                exact en1
            · refine st1 ?_
              have hq : some _ = some _ := hF
              cases hq
              exact en1


@[reducible] noncomputable def c_thalweglaw01_valid : Con := conF F_thalweglaw01_valid (fun x => match x with | (a0) => [(V.agg (eTthalweglaw01_Forecast a0))]) (fun r => (V.v (.bool (r))))
theorem h_thalweglaw01_valid : Has Try.prog 50 c_thalweglaw01_valid := by
  refine hasF (ctx_cons h_river_Check (ctx_cons h_thalweglaw01_copied (ctx_cons h_thalweglaw01_large ctx_nil))) mix Try.func50 rfl (by kernel_rfl) ?_
  rintro a0 r hF
  refine ⟨of_decide_eq_true rfl, ?_⟩
  refine st1 ?_
  obtain ⟨_, h, hF⟩ := e_bind hF
  (first | refine g_call h lv1 ?_ | refine g_callT h lv1 ?_)
  (conv => arg 1; whnf)
  refine st1 ?_
  rcases e_bif hF with ⟨hb1, hF⟩ | ⟨hb1, hF⟩ <;> rw [hb1]
  · refine st1 ?_
    have hq : some _ = some _ := hF
    cases hq
    exact en1
  · refine st1 ?_
    rcases e_bif hF with ⟨hb2, hF⟩ | ⟨hb2, hF⟩ <;> rw [hb2]
    · refine st1 ?_
      have hq : some _ = some _ := hF
      cases hq
      exact en1
    · refine st1 ?_
      rcases e_bif hF with ⟨hb3, hF⟩ | ⟨hb3, hF⟩ <;> rw [hb3]
      · refine st1 ?_
        have hq : some _ = some _ := hF
        cases hq
        exact en1
      · refine st1 ?_
        obtain ⟨_, h, hF⟩ := e_bind hF
        (first | refine o_ia (enc := (eS eTBounds)) (s := 1) h (fun _ => rfl) (by decide) ?_ | refine o_iaT (enc := (eS eTBounds)) (s := 1) h (fun _ => rfl) (by decide) ?_)
        intro _
        refine st1 ?_
        rcases e_bif hF with ⟨hb4, hF⟩ | ⟨hb4, hF⟩ <;> rw [hb4]
        · refine st1 ?_
          have hq : some _ = some _ := hF
          cases hq
          exact en1
        · refine st1 ?_
          obtain ⟨_, h, hF⟩ := e_bind hF
          (first | refine g_call h lv1 ?_ | refine g_callT h lv1 ?_)
          (conv => arg 1; whnf)
          refine st1 ?_
          obtain ⟨_, h, hF⟩ := e_bind hF
          (first | refine g_call h lv1 ?_ | refine g_callT h lv1 ?_)
          (conv => arg 1; whnf)
          refine st1 ?_
          rcases e_bif hF with ⟨hb5, hF⟩ | ⟨hb5, hF⟩ <;> rw [hb5]
          · refine st1 ?_
            have hq : some _ = some _ := hF
            cases hq
            exact en1
          · refine st1 ?_
            refine st_loopF (e_assoc hF) () [(0, _)] ⟨sT, sS, by rfl, by rfl⟩ ?_
            · rintro n _ _ x hx1 hF
              (conv => arg 7; whnf); (conv => arg 8; whnf); (conv => arg 9; whnf)
              refine st1 ?_
              rcases e_bif hF with ⟨hb34, hF⟩ | ⟨hb34, hF⟩ <;> rw [hb34]
              · refine st1 ?_
                obtain ⟨_, h, hF⟩ := e_bind hF
                (first | refine o_ia (enc := (eS eTBounds)) (s := 1) h (fun _ => rfl) (by decide) ?_ | refine o_iaT (enc := (eS eTBounds)) (s := 1) h (fun _ => rfl) (by decide) ?_)
                intro _
                refine st1 ?_
                obtain ⟨_, h, hF⟩ := e_bind hF
                (first | refine o_ia (enc := (eS eTBounds)) (s := 1) h (fun _ => rfl) (by decide) ?_ | refine o_iaT (enc := (eS eTBounds)) (s := 1) h (fun _ => rfl) (by decide) ?_)
                intro _
                refine st1 ?_
                rcases e_bif hF with ⟨hb35, hF⟩ | ⟨hb35, hF⟩ <;> rw [hb35]
                · refine st1 ?_
                  have hF := e_some hF
                  have hq : some _ = some _ := hF
                  cases hq
                  exact en1
                · refine st1 ?_
                  refine st_loopF (e_assoc hF) () [(0, _)] ⟨sT, sS, by rfl, by rfl⟩ ?_
                  · rintro n _ _ x hx2 hF
                    (conv => arg 7; whnf); (conv => arg 8; whnf); (conv => arg 9; whnf)
                    refine st1 ?_
                    obtain ⟨_, h, hF⟩ := e_bind hF
                    (first | refine o_ia (enc := (eS eTBounds)) (s := 1) h (fun _ => rfl) (by decide) ?_ | refine o_iaT (enc := (eS eTBounds)) (s := 1) h (fun _ => rfl) (by decide) ?_)
                    intro _
                    refine st1 ?_
                    rcases e_bif hF with ⟨hb44, hF⟩ | ⟨hb44, hF⟩ <;> rw [hb44]
                    · refine st1 ?_
                      obtain ⟨_, h, hF⟩ := e_bind hF
                      (first | refine o_ia (enc := (eS eTBounds)) (s := 1) h (fun _ => rfl) (by decide) ?_ | refine o_iaT (enc := (eS eTBounds)) (s := 1) h (fun _ => rfl) (by decide) ?_)
                      intro _
                      refine st1 ?_
                      obtain ⟨_, h, hF⟩ := e_bind hF
                      (first | refine o_ia (enc := eTBounds) (s := 2) h (fun _ => rfl) (by decide) ?_ | refine o_iaT (enc := eTBounds) (s := 2) h (fun _ => rfl) (by decide) ?_)
                      intro _
                      refine st1 ?_
                      rcases e_bif hF with ⟨hb45, hF⟩ | ⟨hb45, hF⟩ <;> rw [hb45]
                      · refine st1 ?_
                        have hF := e_some hF
                        have hF := e_some hF
                        have hq : some _ = some _ := hF
                        cases hq
                        exact en1
                      · refine st1 ?_
                        rcases e_bif hF with ⟨hb46, hF⟩ | ⟨hb46, hF⟩ <;> rw [hb46]
                        · refine st1 ?_
                          have hF := e_some hF
                          have hF := e_some hF
                          have hq : some _ = some _ := hF
                          cases hq
                          exact en1
                        · refine st1 ?_
                          rcases e_bif hF with ⟨hb47, hF⟩ | ⟨hb47, hF⟩ <;> rw [hb47]
                          · refine st1 ?_
                            have hF := e_some hF
                            have hF := e_some hF
                            have hq : some _ = some _ := hF
                            cases hq
                            exact en1
                          · refine st1 ?_
                            exact k_loopF (e_some hF) hx2 () [(0, _)] ⟨sT, sS, by rfl, by rfl⟩
                    · refine st1 ?_
                      have hF := e_some hF
                      exact k_loopF (e_some hF) hx1 () [(0, _)] ⟨sT, sS, by rfl, by rfl⟩
              · refine st1 ?_
                have hF := e_some hF
                obtain ⟨_, h, hF⟩ := e_bind hF
                (first | refine o_ia (enc := (eS eTBounds)) (s := 1) h (fun _ => rfl) (by decide) ?_ | refine o_iaT (enc := (eS eTBounds)) (s := 1) h (fun _ => rfl) (by decide) ?_)
                intro _
                refine st1 ?_
                have hq : some _ = some _ := hF
                cases hq
                exact en1


@[reducible] noncomputable def c_thalweglaw01_RiverKeeps : Con := conF F_thalweglaw01_RiverKeeps (fun x => match x with | (a0, a1) => [(V.agg (eTthalweglaw01_Forecast a0)), (V.agg (eTanon106 a1))]) (fun r => (V.v (.bool (r))))
theorem fl_thalweglaw01_RiverKeeps_27 : flatOf Try.prog 9 27 = some [true, true] := by kernel_rfl
theorem eg_thalweglaw01_RiverKeeps_27 : Try.prog.eqGuardType Try.prog.depth 27 = false := by kernel_rfl
theorem ag_thalweglaw01_RiverKeeps_27 : aggOf Try.prog 27 = some true := by kernel_rfl
theorem h_thalweglaw01_RiverKeeps : Has Try.prog 13 c_thalweglaw01_RiverKeeps := by
  refine hasF (ctx_cons h_thalweglaw01_valid (ctx_cons h_river_Volume (ctx_cons h_thalweglaw01_forecast (ctx_cons h_thalweglaw01_copied (ctx_cons h_thalweglaw01_known ctx_nil))))) mix Try.func13 rfl (by kernel_rfl) ?_
  rintro ⟨a0, a1⟩ r hF
  refine ⟨of_decide_eq_true rfl, ?_⟩
  refine st1 ?_
  obtain ⟨_, h, hF⟩ := e_bind hF
  (first | refine g_call h lv1 ?_ | refine g_callT h lv1 ?_)
  (conv => arg 1; whnf)
  refine st1 ?_
  rcases e_bif hF with ⟨hb1, hF⟩ | ⟨hb1, hF⟩ <;> rw [hb1]
  · refine st1 ?_
    obtain ⟨_, h, hF⟩ := e_bind hF
    (first | refine g_call h lv1 ?_ | refine g_callT h lv1 ?_)
    (conv => arg 1; whnf)
    refine st1 ?_
    have hq : some _ = some _ := hF
    cases hq
    exact en1
  · refine st1 ?_
    obtain ⟨_, h, hF⟩ := e_bind hF
    (first | refine o_ia (enc := (eS eTBounds)) (s := 1) h (fun _ => rfl) (by decide) ?_ | refine o_iaT (enc := (eS eTBounds)) (s := 1) h (fun _ => rfl) (by decide) ?_)
    intro _
    refine st1 ?_
    obtain ⟨_, h, hF⟩ := e_bind hF
    (first | refine go_req (nz_ne h) ?_ | refine goT_req (nz_ne h) ?_)
    (conv => arg 1; whnf)
    refine st1 ?_
    obtain ⟨_, h, hF⟩ := e_bind hF
    (first | refine go_req (nz_ne h) ?_ | refine goT_req (nz_ne h) ?_)
    (conv => arg 1; whnf)
    refine st1 ?_
    obtain ⟨_, h, hF⟩ := e_bind hF
    (first | refine go_req (nz_ne h) ?_ | refine goT_req (nz_ne h) ?_)
    (conv => arg 1; whnf)
    refine st1 ?_
    obtain ⟨_, h, hF⟩ := e_bind hF
    (first | refine g_call h lv1 ?_ | refine g_callT h lv1 ?_)
    (conv => arg 1; whnf)
    refine st1 ?_
    obtain ⟨_, h, hF⟩ := e_bind hF
    (first | refine g_call h lv1 ?_ | refine g_callT h lv1 ?_)
    (conv => arg 1; whnf)
    refine st1 ?_
    obtain ⟨_, h, hF⟩ := e_bind hF
    (first | refine g_call h lv1 ?_ | refine g_callT h lv1 ?_)
    (conv => arg 1; whnf)
    refine st1 ?_
    obtain ⟨_, h, hF⟩ := e_bind hF
    (first | refine g_call h lv1 ?_ | refine g_callT h lv1 ?_)
    (conv => arg 1; whnf)
    refine st1 ?_
    obtain ⟨_, h, hF⟩ := e_bind hF
    (first | refine g_call h lv1 ?_ | refine g_callT h lv1 ?_)
    (conv => arg 1; whnf)
    refine st1 ?_
    obtain ⟨_, h, hF⟩ := e_bind hF
    (first | refine g_call h lv1 ?_ | refine g_callT h lv1 ?_)
    (conv => arg 1; whnf)
    refine st1 ?_
    obtain ⟨_, h, hF⟩ := e_bind hF
    (first | refine g_call h lv1 ?_ | refine g_callT h lv1 ?_)
    (conv => arg 1; whnf)
    refine st1 ?_
    obtain ⟨_, h, hF⟩ := e_bind hF
    (first | refine g_call h lv1 ?_ | refine g_callT h lv1 ?_)
    (conv => arg 1; whnf)
    refine st1 ?_
    obtain ⟨_, h, hF⟩ := e_bind hF
    (first | refine g_call h lv1 ?_ | refine g_callT h lv1 ?_)
    (conv => arg 1; whnf)
    refine st1 ?_
    rcases e_bif hF with ⟨hb2, hF⟩ | ⟨hb2, hF⟩ <;> rw [hb2]
    · refine st1 ?_
      have hq : some _ = some _ := hF
      cases hq
      exact en1
    · refine st1 ?_
      rcases e_bif hF with ⟨hb3, hF⟩ | ⟨hb3, hF⟩ <;> rw [hb3]
      · refine st1 ?_
        have hq : some _ = some _ := hF
        cases hq
        exact en1
      · refine st1 ?_
        rcases e_bif hF with ⟨hb4, hF⟩ | ⟨hb4, hF⟩ <;> rw [hb4]
        · refine st1 ?_
          have hq : some _ = some _ := hF
          cases hq
          exact en1
        · refine st1 ?_
          rcases e_bif hF with ⟨hb5, hF⟩ | ⟨hb5, hF⟩ <;> rw [hb5]
          · refine st1 ?_
            have hq : some _ = some _ := hF
            cases hq
            exact en1
          · refine st1 ?_
            rcases e_bif hF with ⟨hb6, hF⟩ | ⟨hb6, hF⟩ <;> rw [hb6]
            · refine st1 ?_
              have hq : some _ = some _ := hF
              cases hq
              exact en1
            · refine st1 ?_
              rcases e_bif hF with ⟨hb7, hF⟩ | ⟨hb7, hF⟩ <;> rw [hb7]
              · refine st1 ?_
                have hq : some _ = some _ := hF
                cases hq
                exact en1
              · refine st1 ?_
                rcases e_bif hF with ⟨hb8, hF⟩ | ⟨hb8, hF⟩ <;> rw [hb8]
                · refine st1 ?_
                  have hq : some _ = some _ := hF
                  cases hq
                  exact en1
                · refine st1 ?_
                  refine st_loopF (e_assoc hF) () [(0, _), (66, _), (127, _)] ⟨sT, sS, by rfl, by rfl⟩ ?_
                  · rintro n ⟨_, _, _⟩ _ x hx1 hF
                    (conv => arg 7; whnf); (conv => arg 8; whnf); (conv => arg 9; whnf)
                    refine st1 ?_
                    rcases e_bif hF with ⟨hb11, hF⟩ | ⟨hb11, hF⟩ <;> rw [hb11]
                    · refine st1 ?_
                      obtain ⟨_, h, hF⟩ := e_bind hF
                      (first | refine o_ia (enc := (eS eTBounds)) (s := 1) h (fun _ => rfl) (by decide) ?_ | refine o_iaT (enc := (eS eTBounds)) (s := 1) h (fun _ => rfl) (by decide) ?_)
                      intro _
                      refine st1 ?_
                      obtain ⟨_, h, hF⟩ := e_bind hF
                      (first | refine o_ia (enc := eTBounds) (s := 2) h (fun _ => rfl) (by decide) ?_ | refine o_iaT (enc := eTBounds) (s := 2) h (fun _ => rfl) (by decide) ?_)
                      intro _
                      refine st1 ?_
                      obtain ⟨_, h, hF⟩ := e_bind hF
                      (first | refine o_ia (enc := (eS eTBounds)) (s := 1) h (fun _ => rfl) (by decide) ?_ | refine o_iaT (enc := (eS eTBounds)) (s := 1) h (fun _ => rfl) (by decide) ?_)
                      intro _
                      refine st1 ?_
                      obtain ⟨_, h, hF⟩ := e_bind hF
                      (first | refine o_ia (enc := eTBounds) (s := 2) h (fun _ => rfl) (by decide) ?_ | refine o_iaT (enc := eTBounds) (s := 2) h (fun _ => rfl) (by decide) ?_)
                      intro _
                      refine st1 ?_
                      exact k_loopF (e_some hF) hx1 () [(0, _), (66, _), (127, _)] ⟨sT, sS, by rfl, by rfl⟩
                    · refine st1 ?_
                      have hF := e_some hF
                      rcases e_bif hF with ⟨hb12, hF⟩ | ⟨hb12, hF⟩ <;> rw [hb12]
                      · refine st1 ?_
                        rw [fl_thalweglaw01_RiverKeeps_27, eg_thalweglaw01_RiverKeeps_27, ag_thalweglaw01_RiverKeeps_27]
                        (conv => arg 1; whnf)
                        refine st1 ?_
                        rcases e_bif hF with ⟨hb13, hF⟩ | ⟨hb13, hF⟩ <;> rw [hb13]
                        · refine st1 ?_
                          obtain ⟨_, h, hF⟩ := e_bind hF
                          (first | refine g_call h lv1 ?_ | refine g_callT h lv1 ?_)
                          (conv => arg 1; whnf)
                          refine st1 ?_
                          have hq : some _ = some _ := hF
                          cases hq
                          exact en1
                        · refine st1 ?_
                          have hq : some _ = some _ := hF
                          cases hq
                          exact en1
                      · refine st1 ?_
                        obtain ⟨_, h, hF⟩ := e_bind hF
                        (first | refine o_ia (enc := eTReach) (s := 9) h (fun _ => rfl) (by decide) ?_ | refine o_iaT (enc := eTReach) (s := 9) h (fun _ => rfl) (by decide) ?_)
                        intro _
                        refine st1 ?_
                        rcases e_bif hF with ⟨hb14, hF⟩ | ⟨hb14, hF⟩ <;> rw [hb14]
                        · refine st1 ?_
                          rcases e_bif hF with ⟨hb15, hF⟩ | ⟨hb15, hF⟩ <;> rw [hb15]
                          · refine st1 ?_
                            rcases e_bif hF with ⟨hb16, hF⟩ | ⟨hb16, hF⟩ <;> rw [hb16]
                            · refine st1 ?_
                              obtain ⟨_, h, hF⟩ := e_bind hF
                              (first | refine g_call h lv1 ?_ | refine g_callT h lv1 ?_)
                              (conv => arg 1; whnf)
                              refine st1 ?_
                              have hq : some _ = some _ := hF
                              cases hq
                              exact en1
                            · refine st1 ?_
                              have hq : some _ = some _ := hF
                              cases hq
                              exact en1
                          · refine st1 ?_
                            have hq : some _ = some _ := hF
                            cases hq
                            exact en1
                        · refine st1 ?_
                          obtain ⟨_, h, hF⟩ := e_bind hF
                          (first | refine g_call h lv1 ?_ | refine g_callT h lv1 ?_)
                          (conv => arg 1; whnf)
                          refine st1 ?_
                          obtain ⟨_, h, hF⟩ := e_bind hF
                          (first | refine g_call h lv1 ?_ | refine g_callT h lv1 ?_)
                          (conv => arg 1; whnf)
                          refine st1 ?_
                          obtain ⟨_, h, hF⟩ := e_bind hF
                          (first | refine g_call h lv1 ?_ | refine g_callT h lv1 ?_)
                          (conv => arg 1; whnf)
                          refine st1 ?_
                          rcases e_bif hF with ⟨hb17, hF⟩ | ⟨hb17, hF⟩ <;> rw [hb17]
                          · refine st1 ?_
                            rw [fl_thalweglaw01_RiverKeeps_27, eg_thalweglaw01_RiverKeeps_27, ag_thalweglaw01_RiverKeeps_27]
                            (conv => arg 1; whnf)
                            refine st1 ?_
                            rcases e_bif hF with ⟨hb18, hF⟩ | ⟨hb18, hF⟩ <;> rw [hb18]
                            · refine st1 ?_
                              obtain ⟨_, h, hF⟩ := e_bind hF
                              (first | refine g_call h lv1 ?_ | refine g_callT h lv1 ?_)
                              (conv => arg 1; whnf)
                              refine st1 ?_
                              have hq : some _ = some _ := hF
                              cases hq
                              exact en1
                            · refine st1 ?_
                              have hq : some _ = some _ := hF
                              cases hq
                              exact en1
                          · refine st1 ?_
                            have hq : some _ = some _ := hF
                            cases hq
                            exact en1
end Go.Ev
/- Chapter 1: what the checks say. -/
set_option linter.unusedVariables false
set_option linter.unusedSimpArgs false
namespace Go.Ev
set_option maxHeartbeats 1000000

theorem every_int {l : List Int} {p : Int → Option Bool} {q : Int → Bool} {g : FuncId} {caps : List V} (hp : ∀ x ∈ l, p x = some (q x)) (hl : l.length ≤ 4611686018427387904) : F_numbers_Every_int (l, p, g, caps) = some (l.all q) := by
  unfold F_numbers_Every_int
  simp only
  rw [show (0 : Int) = ((0 : Nat) : Int) from rfl, loop_list l (fun k => (k : Int)) q (e := .inl ()) (f := .inr false)]
  · cases l.all q <;> rfl
  · intro k hk
    simp only [L_numbers_Every_int_1, Int.ofNat_lt, hk, decide_true, cond_true, idx?_nat hk, Option.bind_some, hp _ (List.getElem_mem hk), wr_nat (show k < 9223372036854775807 by omega)]
    cases q l[k] <;> rfl
  · simp [L_numbers_Every_int_1]
theorem every_Reach {l : List TReach} {p : TReach → Option Bool} {q : TReach → Bool} {g : FuncId} {caps : List V} (hp : ∀ x ∈ l, p x = some (q x)) (hl : l.length ≤ 4611686018427387904) : F_numbers_Every_Reach (l, p, g, caps) = some (l.all q) := by
  unfold F_numbers_Every_Reach
  simp only
  rw [show (0 : Int) = ((0 : Nat) : Int) from rfl, loop_list l (fun k => (k : Int)) q (e := .inl ()) (f := .inr false)]
  · cases l.all q <;> rfl
  · intro k hk
    simp only [L_numbers_Every_Reach_1, Int.ofNat_lt, hk, decide_true, cond_true, idx?_nat hk, Option.bind_some, hp _ (List.getElem_mem hk), wr_nat (show k < 9223372036854775807 by omega)]
    cases q l[k] <;> rfl
  · simp [L_numbers_Every_Reach_1]
theorem every_RateRow {l : List TRateRow} {p : TRateRow → Option Bool} {q : TRateRow → Bool} {g : FuncId} {caps : List V} (hp : ∀ x ∈ l, p x = some (q x)) (hl : l.length ≤ 4611686018427387904) : F_numbers_Every_RateRow (l, p, g, caps) = some (l.all q) := by
  unfold F_numbers_Every_RateRow
  simp only
  rw [show (0 : Int) = ((0 : Nat) : Int) from rfl, loop_list l (fun k => (k : Int)) q (e := .inl ()) (f := .inr false)]
  · cases l.all q <;> rfl
  · intro k hk
    simp only [L_numbers_Every_RateRow_1, Int.ofNat_lt, hk, decide_true, cond_true, idx?_nat hk, Option.bind_some, hp _ (List.getElem_mem hk), wr_nat (show k < 9223372036854775807 by omega)]
    cases q l[k] <;> rfl
  · simp [L_numbers_Every_RateRow_1]
theorem every_Shoal {l : List TShoal} {p : TShoal → Option Bool} {q : TShoal → Bool} {g : FuncId} {caps : List V} (hp : ∀ x ∈ l, p x = some (q x)) (hl : l.length ≤ 4611686018427387904) : F_numbers_Every_Shoal (l, p, g, caps) = some (l.all q) := by
  unfold F_numbers_Every_Shoal
  simp only
  rw [show (0 : Int) = ((0 : Nat) : Int) from rfl, loop_list l (fun k => (k : Int)) q (e := .inl ()) (f := .inr false)]
  · cases l.all q <;> rfl
  · intro k hk
    simp only [L_numbers_Every_Shoal_1, Int.ofNat_lt, hk, decide_true, cond_true, idx?_nat hk, Option.bind_some, hp _ (List.getElem_mem hk), wr_nat (show k < 9223372036854775807 by omega)]
    cases q l[k] <;> rfl
  · simp [L_numbers_Every_Shoal_1]

theorem bif_and (a b : Bool) : (bif a then some b else some false) = some (a && b) := by cases a <;> rfl
theorem bif_not (a b : Bool) : (bif (!a) then some false else some b) = some (a && b) := by cases a <;> rfl

theorem within1_eq (n a b : Int) : F_numbers_Within_1 (n, a, b) = some (inB n a b) := by
  simp only [F_numbers_Within_1, bif_and, inB]
theorem within_eq (a b : Int) (l : List Int) (hl : l.length ≤ 4611686018427387904) : F_numbers_Within (a, b, l) = some (l.all fun n => inB n a b) := by
  simp only [F_numbers_Within]
  rw [every_int (q := fun n => inB n a b) (fun x _ => within1_eq x a b) hl]
  rfl
theorem within1 (a b n : Int) : F_numbers_Within (a, b, [n]) = some (inB n a b) := by rw [within_eq _ _ _ (by simp)]; simp
theorem within2 (a b n m : Int) : F_numbers_Within (a, b, [n, m]) = some (inB n a b && inB m a b) := by rw [within_eq _ _ _ (by simp)]; simp
def vB (b : TBounds) (x y : Int) : Bool := decide (b.Low ≤ b.High) && (inB b.Low x y && inB b.High x y)
theorem valid_eq (b : TBounds) (x y : Int) : F_numbers_Valid (b, x, y) = some (vB b x y) := by
  simp only [F_numbers_Valid, within2, Option.bind_some, bif_and, vB]
theorem In_eq (n a b : Int) : F_thalwegref01_In (n, a, b) = some (inB n a b) := by
  simp only [F_thalwegref01_In, ge_iff_le, bif_and, inB]
theorem rvalid_eq (b : TBounds) (x y : Int) : F_thalwegref01_Valid (b, x, y) = some (vB b x y) := by
  simp only [F_thalwegref01_Valid, In_eq, Option.bind_some, bif_and]
  congr 1
  rw [Bool.eq_iff_iff]
  simp only [vB, inB, Bool.and_eq_true, decide_eq_true_eq]
  omega

def rowOk (x : TRateRow) : Bool := inB x.Flow 0 10000000000 && inB x.Level 0 10000
def pairOk (p : TRateRow × TRateRow) : Bool := decide (p.1.Flow < p.2.Flow) && decide (p.1.Level ≤ p.2.Level)
def curveOk (l : List TRateRow) : Bool := inB l.length 2 30 && ((pairs l).all pairOk && l.all rowOk)
theorem vc2_eq (x : TRateRow) : F_river_validCurve_2 x = some (rowOk x) := by
  simp only [F_river_validCurve_2, within1, Option.bind_some, bif_and, rowOk]
theorem vc1_eq (a b : TRateRow) : F_river_validCurve_1 (a, b) = some (pairOk (a, b)) := by
  simp only [F_river_validCurve_1, bif_and, pairOk]
theorem validCurve_eq (l : List TRateRow) : F_river_validCurve l = some (curveOk l) := by
  unfold F_river_validCurve
  simp only [within1, Option.bind_some]
  cases hl : inB l.length 2 30 with
  | false => simp [curveOk, hl]
  | true =>
    rw [inB_iff] at hl
    simp only [Bool.not_true, cond_false]
    rw [show (1 : Int) = (((0 : Nat) + 1 : Nat) : Int) from rfl, loop_list (pairs l) (fun k => ((k + 1 : Nat) : Int)) pairOk (e := .inl ()) (f := .inr false)]
    · cases hp : (pairs l).all pairOk with
      | false => simp [curveOk, hp]
      | true =>
        simp only [if_true, Option.bind_some]
        rw [every_RateRow (q := rowOk) (fun x _ => vc2_eq x) (by omega)]
        simp [curveOk, hp, inB, hl]
    · intro k hk
      have hk' := hk
      rw [pairs_length] at hk'
      rw [pairs_get]
      simp only [L_river_validCurve_1, show decide (((k + 1 : Nat) : Int) < (l.length : Int)) = true by simp; omega, cond_true]
      rw [show wr (((k + 1 : Nat) : Int) - 1) = (k : Int) by rw [wr_in] <;> omega, idx?_nat (show k < l.length by omega), idx?_nat (show k + 1 < l.length by omega)]
      simp only [Option.bind_some, vc1_eq]
      rw [wr_nat (by omega)]
      cases pairOk (l[k], l[k + 1]) <;> rfl
    · simp only [L_river_validCurve_1, pairs_length]
      rw [show l.length - 1 + 1 = l.length by omega]
      simp
def reachOk (x : TReach) : Bool := inB x.Length 1 5000 && (inB x.Delay 0 200 && ((inB x.Weir 0 10000 && inB x.Flood 0 10000) && (vB x.Base 0 10000000000 && (vB x.Bottom 0 10000 && curveOk x.Curve))))
theorem validReach_eq (x : TReach) : F_river_validReach x = some (reachOk x) := by
  simp only [F_river_validReach, within1, within2, valid_eq, validCurve_eq, Option.bind_some, bif_and, reachOk]
end Go.Ev
/- Chapter 1: rivers that are valid. -/
set_option linter.unusedVariables false
set_option linter.unusedSimpArgs false
namespace Go.Ev
set_option maxHeartbeats 1000000

theorem bif_not' (a : Bool) (x : Option Bool) : (bif (!a) then some false else x) = bif a then x else some false := by cases a <;> rfl
/-- What a reference asks of the rows of a curve, row by row. -/
def rowAt (l : List TRateRow) (k : Nat) : Bool := match l[k]? with
  | none => true
  | some x => rowOk x && (decide (k = 0) || match l[k - 1]? with
    | none => true
    | some y => pairOk (y, x))
theorem all_rows (l : List TRateRow) : (List.range l.length).all (rowAt l) = ((pairs l).all pairOk && l.all rowOk) := by
  rw [Bool.eq_iff_iff]
  simp only [List.all_eq_true, Bool.and_eq_true, List.mem_range]
  constructor
  · intro h
    refine ⟨fun p hp => ?_, fun x hx => ?_⟩
    · obtain ⟨k, hk, rfl⟩ := List.getElem_of_mem hp
      rw [pairs_get]
      have hk' := hk
      rw [pairs_length] at hk'
      have := h (k + 1) (by omega)
      unfold rowAt at this
      rw [List.getElem?_eq_getElem (show k + 1 < l.length by omega)] at this
      simp only [Nat.add_sub_cancel, List.getElem?_eq_getElem (show k < l.length by omega), Bool.and_eq_true, Bool.or_eq_true] at this
      rcases this.2 with h1 | h1
      · simp at h1
      · exact h1
    · obtain ⟨k, hk, rfl⟩ := List.getElem_of_mem hx
      have := h k hk
      unfold rowAt at this
      rw [List.getElem?_eq_getElem hk] at this
      simp only [Bool.and_eq_true] at this
      exact this.1
  · rintro ⟨h1, h2⟩ k hk
    unfold rowAt
    rw [List.getElem?_eq_getElem hk]
    simp only [Bool.and_eq_true, Bool.or_eq_true]
    refine ⟨h2 _ (List.getElem_mem hk), ?_⟩
    cases k with
    | zero => left; rfl
    | succ k =>
      right
      rw [Nat.add_sub_cancel, List.getElem?_eq_getElem (show k < l.length by omega)]
      have hp : k < (pairs l).length := by rw [pairs_length]; omega
      have := h1 _ (List.getElem_mem hp)
      rwa [pairs_get] at this

theorem loop_range {S E : Type} {step : S → Option (S ⊕ E)} (n : Nat) (st : Nat → S) (q : Nat → Bool) {e f : E} (h : ∀ k, k < n → step (st k) = some (if q k then .inl (st (k + 1)) else .inr f)) (he : step (st n) = some (.inr e)) :
    loopC step (st 0) = some (if (List.range n).all q then e else f) := by
  have := loop_list (List.range n) st q (e := e) (f := f) (step := step) (by intro k hk; simpa using h k (by simpa using hk)) (by simpa using he)
  exact this

theorem refReach_eq (x : TReach) : F_thalwegref01_Reach x = some (reachOk x) := by
  unfold F_thalwegref01_Reach
  simp only [In_eq, rvalid_eq, Option.bind_some, bif_not']
  cases hl : inB x.Curve.length 2 30 with
  | false =>
    have : reachOk x = false := by simp [reachOk, curveOk, hl]
    rw [this]
    simp only [cond_false]
    cases inB x.Length 1 5000 <;> cases inB x.Delay 0 200 <;> cases vB x.Base 0 10000000000 <;> rfl
  | true =>
    have hl2 := inB_iff.1 hl
    rw [show (0 : Int) = ((0 : Nat) : Int) from rfl, loop_range x.Curve.length (fun k => (k : Int)) (rowAt x.Curve) (e := .inl ()) (f := .inr false)]
    · rw [all_rows]
      simp only [reachOk, curveOk, hl]
      cases inB x.Length 1 5000 <;> cases inB x.Delay 0 200 <;> cases vB x.Base 0 10000000000 <;> cases inB x.Weir 0 10000 <;> cases vB x.Bottom 0 10000 <;> cases inB x.Flood 0 10000 <;> cases (pairs x.Curve).all pairOk <;> cases x.Curve.all rowOk <;> rfl
    · intro k hk
      simp only [L_thalwegref01_Reach_1, Int.ofNat_lt, hk, decide_true, cond_true, idx?_nat hk, Option.bind_some, In_eq]
      rw [wr_nat (by omega)]
      simp only [rowAt, List.getElem?_eq_getElem hk, rowOk]
      cases inB x.Curve[k].Flow 0 10000000000 with
      | false => rfl
      | true =>
        cases inB x.Curve[k].Level 0 10000 with
        | false => rfl
        | true =>
          simp only [Bool.not_true, cond_false, Bool.and_self, Bool.true_and]
          cases k with
          | zero => rfl
          | succ k =>
            simp only [show decide (((k + 1 : Nat) : Int) > 0) = true by simp, cond_true]
            rw [show wr (((k + 1 : Nat) : Int) - 1) = (k : Int) by rw [wr_in] <;> omega, idx?_nat (show k < x.Curve.length by omega)]
            simp only [Option.bind_some, Nat.add_sub_cancel, List.getElem?_eq_getElem (show k < x.Curve.length by omega), pairOk, show decide (k + 1 = 0) = false by simp, Bool.false_or]
            by_cases h1 : x.Curve[k + 1].Flow ≤ x.Curve[k].Flow
            · simp [h1, show ¬ x.Curve[k].Flow < x.Curve[k + 1].Flow by omega]
            · by_cases h2 : x.Curve[k + 1].Level < x.Curve[k].Level
              · simp [h1, h2, show x.Curve[k].Flow < x.Curve[k + 1].Flow by omega, show ¬ x.Curve[k].Level ≤ x.Curve[k + 1].Level by omega]
              · simp [h1, h2, show x.Curve[k].Flow < x.Curve[k + 1].Flow by omega, show x.Curve[k].Level ≤ x.Curve[k + 1].Level by omega]
    · simp [L_thalwegref01_Reach_1]
end Go.Ev
/- Chapter 1: places, rivers, copies. -/
set_option linter.unusedVariables false
set_option linter.unusedSimpArgs false
namespace Go.Ev
set_option maxHeartbeats 1000000

theorem drop_cons {α : Type} {l m : List α} {k : Nat} {x : α} (h : l.drop k = x :: m) : ∃ hk : k < l.length, l[k] = x ∧ l.drop (k + 1) = m := by
  have hk : k < l.length := by
    rcases Nat.lt_or_ge k l.length with e | e
    · exact e
    · rw [List.drop_of_length_le e] at h; cases h
  rw [List.drop_eq_getElem_cons hk] at h
  cases h
  exact ⟨hk, rfl, rfl⟩
theorem drop_nil {α : Type} {l : List α} {k : Nat} (h : l.drop k = []) : l.length ≤ k := by
  have := congrArg List.length h
  simpa using Nat.le_of_sub_eq_zero (by simpa using this)

def tot : List TReach → Int
  | [] => 0
  | x :: m => x.Length + tot m
def findGo (place : Int) (sh : List TShoal) : List TReach → Int → Nat → Option Triver_site
  | [], _, _ => none
  | x :: m, e, k => if 0 ≤ place ∧ place < e + x.Length then some ⟨x, k, place, sh⟩ else findGo place sh m (e + x.Length) (k + 1)
theorem find_loop (r : TRiver) (place : Int) : ∀ (m : List TReach) (k : Nat) (e : Int), r.Reaches.drop k = m → (∀ x ∈ m, 0 ≤ x.Length ∧ x.Length ≤ 5000) → 0 ≤ e → e ≤ 5000 * k → k + m.length ≤ 1000000 →
    loopC (L_river_find_1 place r).step (e, (k : Int)) = some (match findGo place r.Shoals m e k with | some s => .inr (s, true) | none => .inl ())
  | [], k, e, h, _, _, _, _ => by
    have := drop_nil h
    rw [loopC_eq]
    simp [L_river_find_1, show ¬ k < r.Reaches.length by omega, findGo]
  | x :: m, k, e, h, hx, h0, h1, hk => by
    obtain ⟨hl, hg, hd⟩ := drop_cons h
    have hx0 := hx x (by simp)
    simp only [List.length_cons] at hk
    have hs : (L_river_find_1 place r).step (e, (k : Int)) = if 0 ≤ place ∧ place < e + x.Length then some (.inr (.inr (⟨x, k, place, r.Shoals⟩, true))) else some (.inl (e + x.Length, ((k + 1 : Nat) : Int))) := by
      simp only [L_river_find_1, Int.ofNat_lt, hl, decide_true, cond_true, idx?_nat hl, Option.bind_some, hg]
      rw [wr_in (n := e + x.Length) (by omega) (by omega), wr_nat (by omega)]
      by_cases c1 : 0 ≤ place
      · by_cases c2 : place < e + x.Length <;> simp [c1, c2]
      · simp [c1]
    have ih := find_loop r place m (k + 1) (e + x.Length) hd (fun y hy => hx y (by simp [hy])) (by omega) (by omega) (by omega)
    rw [loopC_eq, hs, findGo]
    by_cases c : 0 ≤ place ∧ place < e + x.Length
    · rw [if_pos c, if_pos c]
    · rw [if_neg c, if_neg c]; exact ih
def noSite : Triver_site := ⟨⟨0, 0, ⟨0, 0⟩, [], 0, ⟨0, 0⟩, 0⟩, 0, 0, []⟩
theorem find_eq {r : TRiver} {place : Int} (hr : ∀ x ∈ r.Reaches, 0 ≤ x.Length ∧ x.Length ≤ 5000) (hl : r.Reaches.length ≤ 1000) :
    F_river_find (r, place) = some (match findGo place r.Shoals r.Reaches 0 0 with | some s => (s, true) | none => (noSite, false)) := by
  unfold F_river_find
  simp only
  rw [show ((0 : Int), (0 : Int)) = ((0 : Int), ((0 : Nat) : Int)) from rfl, find_loop r place r.Reaches 0 0 rfl hr (by omega) (by omega) (by omega)]
  cases findGo place r.Shoals r.Reaches 0 0 with
  | none => rfl
  | some s => rfl
theorem tot_nonneg : ∀ {m : List TReach}, (∀ x ∈ m, 0 ≤ x.Length ∧ x.Length ≤ 5000) → 0 ≤ tot m
  | [], _ => by simp [tot]
  | x :: m, h => by
    have h0 := h x (by simp)
    have := tot_nonneg (m := m) fun y hy => h y (by simp [hy])
    rw [tot]
    omega
theorem findGo_some {place : Int} {sh : List TShoal} : ∀ {m : List TReach} {e : Int} {k : Nat}, (∀ x ∈ m, 0 ≤ x.Length ∧ x.Length ≤ 5000) → (0 ≤ place → e ≤ place) → ((findGo place sh m e k).isSome = true ↔ 0 ≤ place ∧ place < e + tot m)
  | [], e, k, _, h => by
    rw [findGo, tot]
    constructor
    · intro h; cases h
    · rintro ⟨h1, h2⟩; have := h h1; omega
  | x :: m, e, k, hx, h => by
    have hx0 := hx x (by simp)
    have ht := tot_nonneg fun y (hy : y ∈ m) => hx y (by simp [hy])
    rw [findGo, tot]
    by_cases c : 0 ≤ place ∧ place < e + x.Length
    · rw [if_pos c]
      exact ⟨fun _ => ⟨c.1, by omega⟩, fun _ => rfl⟩
    · rw [if_neg c, findGo_some (e := e + x.Length) (fun y hy => hx y (by simp [hy])) (by intro hp; have := h hp; omega), Int.add_assoc]

def shoalOk (r : TRiver) (s : TShoal) : Bool := inB s.Place 0 (tot r.Reaches - 1) && (inB s.Sounded (-400) 400 && (vB s.Bed 0 10000 && vB s.Grow (-500) 500))
theorem validShoal_eq {r : TRiver} {s : TShoal} (hr : ∀ x ∈ r.Reaches, 0 ≤ x.Length ∧ x.Length ≤ 5000) (hl : r.Reaches.length ≤ 1000) : F_river_validShoal (r, s) = some (shoalOk r s) := by
  have hf := findGo_some (place := s.Place) (sh := r.Shoals) (e := 0) (k := 0) hr (by omega)
  have hf : (findGo s.Place r.Shoals r.Reaches 0 0).isSome = inB s.Place 0 (tot r.Reaches - 1) := by
    rw [Bool.eq_iff_iff, hf, inB_iff]; omega
  simp only [F_river_validShoal, find_eq hr hl, Option.bind_some, within1, valid_eq, bif_and, shoalOk, ← hf]
  cases findGo s.Place r.Shoals r.Reaches 0 0 <;> rfl

theorem reachOk_len {x : TReach} (h : reachOk x = true) : 0 ≤ x.Length ∧ x.Length ≤ 5000 := by
  simp only [reachOk, Bool.and_eq_true, inB_iff] at h
  omega
def riverOk (r : TRiver) : Bool := inB r.Reaches.length 1 20 && (r.Reaches.all reachOk && (decide (r.Shoals.length ≤ 40) && r.Shoals.all (shoalOk r)))
theorem Check_eq (r : TRiver) : F_river_Check r = some (if riverOk r then 0 else 2) := by
  unfold F_river_Check
  simp only [within1, Option.bind_some]
  cases h1 : inB r.Reaches.length 1 20 with
  | false => simp [riverOk, h1]
  | true =>
    have hl := inB_iff.1 h1
    simp only [Bool.not_true, cond_false]
    rw [every_Reach (q := reachOk) (fun x _ => validReach_eq x) (by omega)]
    cases h2 : r.Reaches.all reachOk with
    | false => simp [riverOk, h1, h2]
    | true =>
      have hr : ∀ x ∈ r.Reaches, 0 ≤ x.Length ∧ x.Length ≤ 5000 := fun x hx => reachOk_len (List.all_eq_true.1 h2 x hx)
      simp only [Option.bind_some, Bool.not_true, cond_false]
      by_cases h3 : r.Shoals.length ≤ 40
      · rw [every_Shoal (q := shoalOk r) (fun x _ => by simp only [F_river_Check_1, validShoal_eq hr (by omega), Option.bind_some]) (by omega)]
        simp only [show decide ((r.Shoals.length : Int) > 40) = false by simp; omega, cond_false, Option.bind_some, riverOk, h1, h2, h3, decide_true, Bool.true_and]
        cases r.Shoals.all (shoalOk r) <;> rfl
      · simp only [show decide ((r.Shoals.length : Int) > 40) = true by simp; omega, cond_true, riverOk, h1, h2, h3, decide_false, Bool.true_and, Bool.false_and]
        rfl

theorem tot_bound : ∀ {m : List TReach}, (∀ x ∈ m, 0 ≤ x.Length ∧ x.Length ≤ 5000) → 0 ≤ tot m ∧ tot m ≤ 5000 * m.length
  | [], _ => by simp [tot]
  | x :: m, h => by
    have h0 := h x (by simp)
    have := tot_bound (m := m) fun y hy => h y (by simp [hy])
    simp only [tot, List.length_cons]
    omega
theorem places_loop (r : TRiver) : ∀ (m : List TReach) (k : Nat) (e : Int), r.Reaches.drop k = m → (∀ x ∈ m, 0 ≤ x.Length ∧ x.Length ≤ 5000) → 0 ≤ e → e ≤ 5000 * k → k + m.length ≤ 1000000 →
    loopC (L_thalwegref01_Places_1 r).step (e, (k : Int)) = some (e + tot m)
  | [], k, e, h, _, _, _, _ => by
    have := drop_nil h
    rw [loopC_eq]
    simp [L_thalwegref01_Places_1, show ¬ k < r.Reaches.length by omega, tot]
  | x :: m, k, e, h, hx, h0, h1, hk => by
    obtain ⟨hl, hg, hd⟩ := drop_cons h
    have hx0 := hx x (by simp)
    simp only [List.length_cons] at hk
    have hs : (L_thalwegref01_Places_1 r).step (e, (k : Int)) = some (.inl (e + x.Length, ((k + 1 : Nat) : Int))) := by
      simp only [L_thalwegref01_Places_1, Int.ofNat_lt, hl, decide_true, cond_true, idx?_nat hl, Option.bind_some, hg]
      rw [wr_in (n := e + x.Length) (by omega) (by omega), wr_nat (by omega)]
    rw [loopC_eq, hs, tot]
    simp only
    rw [places_loop r m (k + 1) (e + x.Length) hd (fun y hy => hx y (by simp [hy])) (by omega) (by omega) (by omega), Int.add_assoc]
theorem Places_eq {r : TRiver} (hr : ∀ x ∈ r.Reaches, 0 ≤ x.Length ∧ x.Length ≤ 5000) (hl : r.Reaches.length ≤ 1000) : F_thalwegref01_Places r = some (tot r.Reaches) := by
  unfold F_thalwegref01_Places
  simp only
  rw [show ((0 : Int), (0 : Int)) = ((0 : Int), ((0 : Nat) : Int)) from rfl, places_loop r r.Reaches 0 0 rfl hr (by omega) (by omega) (by omega), Int.zero_add]
  rfl
theorem four {α : Type} (a b c d : Bool) (x y : α) : (bif (!a) then some y else bif (!b) then some y else bif (!c) then some y else bif (!d) then some y else some x) = some (if (a && (c && (b && d))) = true then x else y) := by
  cases a <;> cases b <;> cases c <;> cases d <;> rfl
theorem refRiver_eq (r : TRiver) : F_thalwegref01_River r = some (riverOk r) := by
  unfold F_thalwegref01_River
  simp only [In_eq, Option.bind_some]
  cases h1 : inB r.Reaches.length 1 20 with
  | false => simp [riverOk, h1]
  | true =>
    have hl := inB_iff.1 h1
    simp only [Bool.not_true, cond_false]
    by_cases h3 : r.Shoals.length ≤ 40
    · simp only [show decide ((r.Shoals.length : Int) > 40) = false by simp; omega, cond_false]
      rw [show (0 : Int) = ((0 : Nat) : Int) from rfl, loop_list r.Reaches (fun k => (k : Int)) reachOk (e := .inl ()) (f := .inr false)]
      · cases h2 : r.Reaches.all reachOk with
        | false => simp [riverOk, h2]
        | true =>
          have hr : ∀ x ∈ r.Reaches, 0 ≤ x.Length ∧ x.Length ≤ 5000 := fun x hx => reachOk_len (List.all_eq_true.1 h2 x hx)
          have hb := tot_bound hr
          simp only [if_true, Option.bind_some]
          rw [loop_list r.Shoals (fun k => (k : Int)) (shoalOk r) (e := .inl ()) (f := .inr false)]
          · simp only [riverOk, h1, h2, h3, decide_true, Bool.true_and]
            cases r.Shoals.all (shoalOk r) <;> rfl
          · intro k hk
            simp only [L_thalwegref01_River_2, Int.ofNat_lt, hk, decide_true, cond_true, idx?_nat hk, Option.bind_some, Places_eq hr (by omega), In_eq, rvalid_eq, shoalOk]
            rw [wr_nat (by omega), wr_in (n := tot r.Reaches - 1) (by omega) (by omega)]
            exact four _ _ _ _ _ _
          · simp [L_thalwegref01_River_2]
      · intro k hk
        simp only [L_thalwegref01_River_1, Int.ofNat_lt, hk, decide_true, cond_true, idx?_nat hk, Option.bind_some, refReach_eq]
        rw [wr_nat (by omega)]
        cases reachOk r.Reaches[k] <;> rfl
      · simp [L_thalwegref01_River_1]
    · simp only [show decide ((r.Shoals.length : Int) > 40) = true by simp; omega, cond_true, riverOk, h1, h3, decide_false, Bool.true_and, Bool.false_and, Bool.and_false]
end Go.Ev
/- Chapter 1: copies, what is large, levels. -/
set_option linter.unusedVariables false
set_option linter.unusedSimpArgs false
namespace Go.Ev
set_option maxHeartbeats 1000000

def largeOf (r : TRiver) : Bool := decide (r.Reaches.length > 25) || (decide (r.Shoals.length > 50) || !(r.Reaches.all fun x => decide (x.Curve.length ≤ 40)))
theorem large_river {r : TRiver} (hl : r.Reaches.length ≤ 140737488355328) : F_thalweglaw01_large ⟨r, []⟩ = some (largeOf r) := by
  unfold F_thalweglaw01_large
  simp only
  by_cases h1 : r.Reaches.length > 25
  · simp [largeOf, h1, show ((r.Reaches.length : Int) > 25) by omega]
  · simp only [show decide ((r.Reaches.length : Int) > 25) = false by simp; omega, cond_false]
    by_cases h2 : r.Shoals.length > 50
    · simp [largeOf, h2, show ((r.Shoals.length : Int) > 50) by omega]
    · simp only [show decide ((r.Shoals.length : Int) > 50) = false by simp; omega, cond_false, List.length_nil]
      rw [show decide (((0 : Nat) : Int) > 25) = false by decide, cond_false, show (0 : Int) = ((0 : Nat) : Int) from rfl,
        loop_list r.Reaches (fun k => (k : Int)) (fun x => decide (x.Curve.length ≤ 40)) (e := .inl ()) (f := .inr true)]
      · simp only [largeOf, h1, h2, decide_false, Bool.false_or]
        cases hq : r.Reaches.all fun x => decide (x.Curve.length ≤ 40) with
        | false => rfl
        | true =>
          simp only [if_true, Option.bind_some]
          rw [loopC_eq]
          simp [L_thalweglaw01_large_2]
      · intro k hk
        simp only [L_thalweglaw01_large_1, Int.ofNat_lt, hk, decide_true, cond_true, idx?_nat hk, Option.bind_some]
        rw [wr_nat (by omega)]
        by_cases h3 : r.Reaches[k].Curve.length ≤ 40
        · simp [h3, show ¬ ((r.Reaches[k].Curve.length : Int) > 40) by omega]
        · simp [h3, show ((r.Reaches[k].Curve.length : Int) > 40) by omega]
      · simp [L_thalweglaw01_large_1]

theorem copied_eq {r : TRiver} (h1 : r.Reaches.length ≤ 1000000) (h2 : r.Shoals.length ≤ 1000000) (h3 : ∀ x ∈ r.Reaches, x.Curve.length ≤ 1000000) : F_thalweglaw01_copied r = some r := by
  unfold F_thalweglaw01_copied
  simp only
  rw [show ((0 : Int), ([] : List TReach)) = (fun k : Nat => ((k : Int), r.Reaches.take k)) 0 from rfl, loop_run (fun k : Nat => ((k : Int), r.Reaches.take k)) r.Reaches.length (e := r.Reaches)]
  · simp only [Option.bind_some, app_nil (m := r.Shoals) (n := 48) (by omega) (by decide)]
  · intro k hk
    simp only [L_thalweglaw01_copied_1, Int.ofNat_lt, hk, decide_true, cond_true, idx?_nat hk, Option.bind_some]
    have := h3 _ (List.getElem_mem hk)
    rw [app_nil (by omega) (by decide)]
    simp only [Option.bind_some]
    rw [app_of (by simp [Nat.min_eq_left (Nat.le_of_lt hk)]; omega) (by decide), wr_nat (by omega)]
    simp only [Option.bind_some, List.take_succ_eq_append_getElem hk]
  · simp [L_thalweglaw01_copied_1]
theorem unchanged_eq {r : TRiver} (h1 : r.Reaches.length ≤ 1000000) (h2 : r.Shoals.length ≤ 1000000) (h3 : ∀ x ∈ r.Reaches, x.Curve.length ≤ 1000000) : F_thalweglaw01_unchanged (r, r) = some true := by
  unfold F_thalweglaw01_unchanged
  simp only [bne_self_eq_false, cond_false]
  rw [show (0 : Int) = ((0 : Nat) : Int) from rfl, loop_run (fun k : Nat => (k : Int)) r.Reaches.length (e := .inl ())]
  · simp only [Option.bind_some]
    rw [loop_run (fun k : Nat => (k : Int)) r.Shoals.length (e := .inl ())]
    · rfl
    · intro k hk
      simp only [L_thalweglaw01_unchanged_3, Int.ofNat_lt, hk, decide_true, cond_true, idx?_nat hk, Option.bind_some, beq_self_eq_true, Bool.and_self, Bool.not_true, cond_false]
      rw [wr_nat (by omega)]
    · simp [L_thalweglaw01_unchanged_3]
  · intro k hk
    simp only [L_thalweglaw01_unchanged_2, Int.ofNat_lt, hk, decide_true, cond_true, idx?_nat hk, Option.bind_some, beq_self_eq_true, bne_self_eq_false, Bool.and_self, Bool.not_true, cond_false]
    have := h3 _ (List.getElem_mem hk)
    rw [show (0 : Int) = ((0 : Nat) : Int) from rfl, loop_run (fun j : Nat => (j : Int)) r.Reaches[k].Curve.length (e := .inl ())]
    · simp only [Option.bind_some]
      rw [wr_nat (by omega)]
    · intro j hj
      simp only [L_thalweglaw01_unchanged_1, Int.ofNat_lt, hj, decide_true, cond_true, idx?_nat hj, Option.bind_some, beq_self_eq_true, Bool.and_self, Bool.not_true, cond_false]
      rw [wr_nat (by omega)]
    · simp [L_thalweglaw01_unchanged_1]
  · simp [L_thalweglaw01_unchanged_2]
end Go.Ev
/- Chapter 1: levels. -/
set_option linter.unusedVariables false
set_option linter.unusedSimpArgs false
namespace Go.Ev
set_option maxHeartbeats 1000000

theorem tdiv_tmod {a b : Int} (hb : 0 < b) : b * a.tdiv b + a.tmod b = a ∧ -b < a.tmod b ∧ a.tmod b < b ∧ (0 ≤ a → 0 ≤ a.tmod b) ∧ (a ≤ 0 → a.tmod b ≤ 0) := by
  refine ⟨Int.mul_tdiv_add_tmod a b, ?_, ?_, ?_, ?_⟩
  · rcases Int.le_total 0 a with h | h
    · have := Int.tmod_nonneg b h; omega
    · have h1 := Int.tmod_nonneg b (a := -a) (by omega)
      have h2 := Int.tmod_lt_of_pos (-a) hb
      rw [Int.neg_tmod] at h1 h2; omega
  · exact Int.tmod_lt_of_pos a hb
  · exact fun h => Int.tmod_nonneg b h
  · intro h
    have h1 := Int.tmod_nonneg b (a := -a) (by omega)
    rw [Int.neg_tmod] at h1; omega
theorem tdiv_le {a b : Int} (hb : 0 < b) : -a.natAbs ≤ a.tdiv b ∧ a.tdiv b ≤ a.natAbs := by
  have h : (a.tdiv b).natAbs ≤ a.natAbs := by
    rw [Int.natAbs_tdiv]; exact Nat.div_le_self _ _
  omega
theorem div_of {a b q r : Int} (hb : 0 < b) (h : r + b * q = a) (h0 : 0 ≤ r) (h1 : r < b) : a / b = q := ((Int.ediv_emod_unique hb).2 ⟨h, h0, h1⟩).1

theorem Down_eq {a b : Int} (hb : 0 < b) (ha : a.natAbs ≤ 4611686018427387904) : F_numbers_Down (a, b) = some (a / b) := by
  obtain ⟨h1, h2, h3, h4, h5⟩ := tdiv_tmod (a := a) hb
  have h6 := tdiv_le (a := a) hb
  simp only [F_numbers_Down, nz_of (show b ≠ 0 by omega), Option.bind_some]
  rw [wr_in (n := a.tdiv b) (by omega) (by omega)]
  by_cases c : a.tmod b < 0
  · rw [wr_in (n := a.tdiv b - 1) (by omega) (by omega), div_of (q := a.tdiv b - 1) (r := a.tmod b + b) hb (by rw [Int.mul_sub]; omega) (by omega) (by omega)]
    simp [c]
  · rw [div_of (q := a.tdiv b) (r := a.tmod b) hb (by omega) (by omega) (by omega)]
    simp [c]
theorem div_bound {a b : Int} (hb : 0 < b) : -a.natAbs ≤ a / b ∧ a / b ≤ a.natAbs := by
  have := Int.natAbs_ediv_le_natAbs a b
  omega
theorem Up_eq {a b : Int} (hb : 0 < b) (ha : a.natAbs ≤ 4611686018427387904) : F_numbers_Up (a, b) = some (-((-a) / b)) := by
  have h := div_bound (a := -a) hb
  simp only [F_numbers_Up]
  rw [wr_in (n := 0 - a) (by omega) (by omega), show 0 - a = -a by omega, Down_eq hb (by omega)]
  simp only [Option.bind_some]
  rw [wr_in (by omega) (by omega)]
  simp
theorem Floor_eq {a b : Int} (hb : 0 < b) (ha : a.natAbs ≤ 4611686018427387904) : F_thalwegref01_Floor (a, b) = some (a / b) := by
  obtain ⟨h1, h2, h3, h4, h5⟩ := tdiv_tmod (a := a) hb
  have h6 := tdiv_le (a := a) hb
  have hq : a.tdiv b * b = a - a.tmod b := by rw [Int.mul_comm]; omega
  have hr : (a.tmod b).natAbs ≤ a.natAbs := by rw [Int.natAbs_tmod]; exact Nat.mod_le _ _
  simp only [F_thalwegref01_Floor, nz_of (show b ≠ 0 by omega), Option.bind_some]
  rw [wr_in (n := a.tdiv b) (by omega) (by omega), hq, wr_in (n := a - a.tmod b) (by omega) (by omega)]
  by_cases c : a.tmod b < 0
  · rw [wr_in (n := a.tdiv b - 1) (by omega) (by omega), div_of (q := a.tdiv b - 1) (r := a.tmod b + b) hb (by rw [Int.mul_sub]; omega) (by omega) (by omega)]
    simp [show a - a.tmod b > a by omega]
  · rw [div_of (q := a.tdiv b) (r := a.tmod b) hb (by omega) (by omega) (by omega)]
    simp [show ¬ (a - a.tmod b > a) by omega]
theorem Ceil_eq {a b : Int} (hb : 0 < b) (ha : a.natAbs ≤ 4611686018427387904) : F_thalwegref01_Ceil (a, b) = some (-((-a) / b)) := by
  obtain ⟨h1, h2, h3, h4, h5⟩ := tdiv_tmod (a := a) hb
  have h6 := tdiv_le (a := a) hb
  have hq : a.tdiv b * b = a - a.tmod b := by rw [Int.mul_comm]; omega
  have hr : (a.tmod b).natAbs ≤ a.natAbs := by rw [Int.natAbs_tmod]; exact Nat.mod_le _ _
  simp only [F_thalwegref01_Ceil, nz_of (show b ≠ 0 by omega), Option.bind_some]
  rw [wr_in (n := a.tdiv b) (by omega) (by omega), hq, wr_in (n := a - a.tmod b) (by omega) (by omega)]
  by_cases c : 0 < a.tmod b
  · rw [wr_in (n := a.tdiv b + 1) (by omega) (by omega), div_of (a := -a) (q := -(a.tdiv b + 1)) (r := b - a.tmod b) hb (by rw [Int.mul_neg, Int.mul_add]; omega) (by omega) (by omega)]
    simp [show a - a.tmod b < a by omega]
  · rw [div_of (a := -a) (q := -(a.tdiv b)) (r := -a.tmod b) hb (by rw [Int.mul_neg]; omega) (by omega) (by omega)]
    simp [show ¬ (a - a.tmod b < a) by omega]

/-- The first row whose flow is not less. -/
def firstAt (l : List TRateRow) (n : Int) : Nat := l.findIdx fun x => decide (n ≤ x.Flow)
theorem first_lt {l : List TRateRow} {n : Int} {k : Nat} (h : k < firstAt l n) (hk : k < l.length) : l[k].Flow < n := by
  have := List.not_of_lt_findIdx h
  simp at this
  exact this
theorem first_at {l : List TRateRow} {n : Int} (h : firstAt l n < l.length) : n ≤ l[firstAt l n].Flow := by
  have := List.findIdx_getElem (p := fun x : TRateRow => decide (n ≤ x.Flow)) (xs := l) (w := h)
  exact of_decide_eq_true this
theorem first_le (l : List TRateRow) (n : Int) : firstAt l n ≤ l.length := List.findIdx_le_length
theorem index_eq {l : List TRateRow} {n : Int} {g : FuncId} {caps : List V} (hl : l.length ≤ 4611686018427387904) : F_slices_IndexFunc_L_RateRow_RateRow (l, (fun q => F_river_curveAt_1 (q, n)), g, caps) = some (if firstAt l n < l.length then (firstAt l n : Int) else -1) := by
  unfold F_slices_IndexFunc_L_RateRow_RateRow
  simp only
  have hle := first_le l n
  by_cases c : firstAt l n < l.length
  · rw [show (0 : Int) = ((0 : Nat) : Int) from rfl, loop_run (fun k : Nat => (k : Int)) (firstAt l n) (e := .inr (firstAt l n : Int))]
    · simp [c]
    · intro k hk
      have hkl : k < l.length := by omega
      have := first_lt hk hkl
      simp only [L_slices_IndexFunc_L_RateRow_RateRow_1, Int.ofNat_lt, hkl, decide_true, cond_true, idx?_nat hkl, Option.bind_some, F_river_curveAt_1, show decide (n ≤ l[k].Flow) = false by simp; omega, cond_false]
      rw [wr_nat (by omega)]
    · have := first_at c
      simp only [L_slices_IndexFunc_L_RateRow_RateRow_1, Int.ofNat_lt, c, decide_true, cond_true, idx?_nat c, Option.bind_some, F_river_curveAt_1, this]
  · rw [show (0 : Int) = ((0 : Nat) : Int) from rfl, loop_run (fun k : Nat => (k : Int)) l.length (e := .inl ())]
    · simp [c]
    · intro k hkl
      have := first_lt (n := n) (show k < firstAt l n by omega) hkl
      simp only [L_slices_IndexFunc_L_RateRow_RateRow_1, Int.ofNat_lt, hkl, decide_true, cond_true, idx?_nat hkl, Option.bind_some, F_river_curveAt_1, show decide (n ≤ l[k].Flow) = false by simp; omega, cond_false]
      rw [wr_nat (by omega)]
    · simp [L_slices_IndexFunc_L_RateRow_RateRow_1]

theorem flows_up {l : List TRateRow} (h : (pairs l).all pairOk = true) : ∀ {a b : Nat} (hab : a < b) (hb : b < l.length), l[a].Flow < l[b].Flow := by
  have one : ∀ a (ha : a + 1 < l.length), l[a].Flow < l[a + 1].Flow := by
    intro a ha
    have hp : a < (pairs l).length := by rw [pairs_length]; omega
    have := List.all_eq_true.1 h _ (List.getElem_mem hp)
    rw [pairs_get] at this
    simp only [pairOk, Bool.and_eq_true, decide_eq_true_eq] at this
    exact this.1
  intro a b hab hb
  induction b with
  | zero => omega
  | succ b ih =>
    have h1 := one b hb
    by_cases c : a = b
    · subst c; exact h1
    · have := ih (by omega) (by omega)
      omega
theorem levels_up {l : List TRateRow} (h : (pairs l).all pairOk = true) {a : Nat} (ha : a + 1 < l.length) : l[a].Level ≤ l[a + 1].Level := by
  have hp : a < (pairs l).length := by rw [pairs_length]; omega
  have := List.all_eq_true.1 h _ (List.getElem_mem hp)
  rw [pairs_get] at this
  simp only [pairOk, Bool.and_eq_true, decide_eq_true_eq] at this
  exact this.2
theorem row_in {l : List TRateRow} (h : l.all rowOk = true) {a : Nat} (ha : a < l.length) : 0 ≤ l[a].Flow ∧ l[a].Flow ≤ 10000000000 ∧ 0 ≤ l[a].Level ∧ l[a].Level ≤ 10000 := by
  have := List.all_eq_true.1 h _ (List.getElem_mem ha)
  simp only [rowOk, Bool.and_eq_true, inB_iff] at this
  omega

/-- The level at a flow, rounded down, or up. -/
def divB (up : Bool) (a b : Int) : Int := if up then -((-a) / b) else a / b
def levelOf (l : List TRateRow) (n : Int) (up : Bool) : Int :=
  let i := firstAt l n
  match l[i]?, l[i - 1]? with
  | some y, some x => if i = 0 then y.Level else x.Level + divB up ((y.Level - x.Level) * (n - x.Flow)) (y.Flow - x.Flow)
  | none, some x => x.Level
  | _, none => 0

theorem mul_small {a b : Int} (ha : 0 ≤ a) (ha' : a ≤ 10000) (hb : 0 ≤ b) (hb' : b ≤ 10000000000) : 0 ≤ a * b ∧ a * b ≤ 100000000000000 := by
  refine ⟨Int.mul_nonneg ha hb, ?_⟩
  have h1 : a * b ≤ 10000 * b := Int.mul_le_mul_of_nonneg_right ha' hb
  omega
theorem div_small {a b : Int} (hb : 0 < b) (h0 : 0 ≤ a) (h1 : a ≤ 100000000000000) (up : Bool) : -100000000000000 ≤ divB up a b ∧ divB up a b ≤ 100000000000000 := by
  unfold divB
  have h2 := div_bound (a := a) hb
  have h3 := div_bound (a := -a) hb
  split <;> omega
theorem div_exact {a b : Int} (hb : 0 < b) (up : Bool) : divB up (a * b) b = a := by
  unfold divB
  split
  · rw [← Int.neg_mul, Int.mul_ediv_cancel _ (by omega)]; omega
  · exact Int.mul_ediv_cancel _ (by omega)

theorem curveAt_eq {l : List TRateRow} {n : Int} {p : Int × Int → Option Int} {g : FuncId} {caps : List V} {up : Bool} (hc : curveOk l = true) (hp : ∀ a b : Int, 0 < b → a.natAbs ≤ 4611686018427387904 → p (a, b) = some (divB up a b)) : F_river_curveAt (l, n, p, g, caps) = some (levelOf l n up) := by
  simp only [curveOk, Bool.and_eq_true, inB_iff] at hc
  obtain ⟨hl, hps, hrs⟩ := hc
  have hle := first_le l n
  simp only [F_river_curveAt]
  rw [index_eq (by omega)]
  simp only [Option.bind_some]
  by_cases c : firstAt l n < l.length
  · rw [if_pos c]
    simp only [show decide ((firstAt l n : Int) < 0) = false by simp, cond_false]
    by_cases c0 : firstAt l n = 0
    · rw [c0]
      simp only [show (((0 : Nat) : Int) == 0) = true by decide, cond_true]
      rw [show (0 : Int) = ((0 : Nat) : Int) from rfl, idx?_nat (show 0 < l.length by omega)]
      simp [levelOf, c0, show 0 < l.length by omega]
    · simp only [show ((firstAt l n : Int) == 0) = false by simp; omega, cond_false]
      have ci : firstAt l n - 1 < l.length := by omega
      rw [wr_in (n := (firstAt l n : Int) - 1) (by omega) (by omega), show ((firstAt l n : Int) - 1) = ((firstAt l n - 1 : Nat) : Int) by omega, idx?_nat ci, idx?_nat c]
      simp only [Option.bind_some, levelOf, List.getElem?_eq_getElem c, List.getElem?_eq_getElem ci, c0, if_false]
      have r1 := row_in hrs ci
      have r2 := row_in hrs c
      have f1 := first_lt (n := n) (show firstAt l n - 1 < firstAt l n by omega) ci
      have f2 := first_at c
      have lv := levels_up hps (a := firstAt l n - 1) (by omega)
      simp only [show firstAt l n - 1 + 1 = firstAt l n by omega] at lv
      rw [wr_in (n := l[firstAt l n].Level - l[firstAt l n - 1].Level) (by omega) (by omega), wr_in (n := n - l[firstAt l n - 1].Flow) (by omega) (by omega), wr_in (n := l[firstAt l n].Flow - l[firstAt l n - 1].Flow) (by omega) (by omega)]
      have hm := mul_small (a := l[firstAt l n].Level - l[firstAt l n - 1].Level) (b := n - l[firstAt l n - 1].Flow) (by omega) (by omega) (by omega) (by omega)
      rw [wr_in (by omega) (by omega), hp _ _ (by omega) (by omega)]
      have hd := div_small (b := l[firstAt l n].Flow - l[firstAt l n - 1].Flow) (by omega) hm.1 hm.2 up
      simp only [Option.bind_some]
      rw [wr_in (by omega) (by omega)]
  · rw [if_neg c]
    have ce : firstAt l n = l.length := by omega
    have ci : l.length - 1 < l.length := by omega
    simp only [show decide ((-1 : Int) < 0) = true by decide, cond_true]
    rw [wr_in (by omega) (by omega), show ((l.length : Int) - 1) = ((l.length - 1 : Nat) : Int) by omega, idx?_nat ci]
    simp [levelOf, ce, ci]

theorem refCurve_eq {x : TReach} {n : Int} {up : Bool} (hc : curveOk x.Curve = true) : F_thalwegref01_Curve (x, n, up) = some (levelOf x.Curve n up) := by
  simp only [curveOk, Bool.and_eq_true, inB_iff] at hc
  obtain ⟨hl, hps, hrs⟩ := hc
  have hle := first_le x.Curve n
  have c1 : x.Curve.length - 1 < x.Curve.length := by omega
  have c0 : 0 < x.Curve.length := by omega
  simp only [F_thalwegref01_Curve]
  rw [wr_in (n := (x.Curve.length : Int) - 1) (by omega) (by omega), show ((x.Curve.length : Int) - 1) = ((x.Curve.length - 1 : Nat) : Int) by omega, idx?_nat c1]
  rw [show (0 : Int) = ((0 : Nat) : Int) from rfl, idx?_nat c0]
  simp only [Option.bind_some]
  by_cases h0 : n ≤ x.Curve[0].Flow
  · have hi : firstAt x.Curve n = 0 := by
      rcases Nat.eq_zero_or_pos (firstAt x.Curve n) with e | e
      · exact e
      · have := first_lt e c0; omega
    simp [h0, levelOf, hi, c0]
  · simp only [h0, decide_false, cond_false]
    have hi : 0 < firstAt x.Curve n := by
      rcases Nat.eq_zero_or_pos (firstAt x.Curve n) with e | e
      · have := first_at (l := x.Curve) (n := n) (by omega); simp only [e] at this; omega
      · exact e
    by_cases hL : n ≥ x.Curve[x.Curve.length - 1].Flow
    · simp only [hL, decide_true, cond_true, Option.some.injEq]
      by_cases c : firstAt x.Curve n < x.Curve.length
      · have f2 := first_at c
        have he : firstAt x.Curve n = x.Curve.length - 1 := by
          rcases Nat.lt_or_ge (firstAt x.Curve n) (x.Curve.length - 1) with e | e
          · have := flows_up hps e c1; omega
          · omega
        have ci : firstAt x.Curve n - 1 < x.Curve.length := by omega
        have f1 := first_lt (n := n) (show firstAt x.Curve n - 1 < firstAt x.Curve n by omega) ci
        simp only [levelOf, List.getElem?_eq_getElem c, List.getElem?_eq_getElem ci, show ¬ firstAt x.Curve n = 0 by omega, if_false]
        have hn : n = x.Curve[firstAt x.Curve n].Flow := by simp only [he] at f2 ⊢; omega
        have f3 : x.Curve[firstAt x.Curve n - 1].Flow < x.Curve[firstAt x.Curve n].Flow := by omega
        have hx := div_exact (a := x.Curve[firstAt x.Curve n].Level - x.Curve[firstAt x.Curve n - 1].Level) (b := x.Curve[firstAt x.Curve n].Flow - x.Curve[firstAt x.Curve n - 1].Flow) (by omega) up
        rw [show n - x.Curve[firstAt x.Curve n - 1].Flow = x.Curve[firstAt x.Curve n].Flow - x.Curve[firstAt x.Curve n - 1].Flow by omega, hx]
        simp only [he]
        omega
      · have ce : firstAt x.Curve n = x.Curve.length := by omega
        simp [levelOf, ce, c1]
    · simp only [hL, decide_false, cond_false]
      have c : firstAt x.Curve n < x.Curve.length := by
        rcases Nat.lt_or_ge (firstAt x.Curve n) x.Curve.length with e | e
        · exact e
        · have := first_lt (n := n) (show x.Curve.length - 1 < firstAt x.Curve n by omega) c1; omega
      have ci : firstAt x.Curve n - 1 < x.Curve.length := by omega
      rw [loop_run (fun k : Nat => (k : Int)) (firstAt x.Curve n - 1) (e := ((firstAt x.Curve n - 1 : Nat) : Int))]
      · simp only [Option.bind_some, idx?_nat ci]
        rw [wr_nat (by omega), show firstAt x.Curve n - 1 + 1 = firstAt x.Curve n by omega, idx?_nat c]
        simp only [Option.bind_some, levelOf, List.getElem?_eq_getElem c, List.getElem?_eq_getElem ci, show ¬ firstAt x.Curve n = 0 by omega, if_false]
        have r1 := row_in hrs ci
        have r2 := row_in hrs c
        have f1 := first_lt (n := n) (show firstAt x.Curve n - 1 < firstAt x.Curve n by omega) ci
        have f2 := first_at c
        have lv := levels_up hps (a := firstAt x.Curve n - 1) (by omega)
        simp only [show firstAt x.Curve n - 1 + 1 = firstAt x.Curve n by omega] at lv
        rw [wr_in (n := x.Curve[firstAt x.Curve n].Level - x.Curve[firstAt x.Curve n - 1].Level) (by omega) (by omega), wr_in (n := n - x.Curve[firstAt x.Curve n - 1].Flow) (by omega) (by omega), wr_in (n := x.Curve[firstAt x.Curve n].Flow - x.Curve[firstAt x.Curve n - 1].Flow) (by omega) (by omega)]
        have hm := mul_small (a := x.Curve[firstAt x.Curve n].Level - x.Curve[firstAt x.Curve n - 1].Level) (b := n - x.Curve[firstAt x.Curve n - 1].Flow) (by omega) (by omega) (by omega) (by omega)
        rw [Int.mul_comm (n - x.Curve[firstAt x.Curve n - 1].Flow), wr_in (n := (x.Curve[firstAt x.Curve n].Level - x.Curve[firstAt x.Curve n - 1].Level) * (n - x.Curve[firstAt x.Curve n - 1].Flow)) (by omega) (by omega), Ceil_eq (by omega) (by omega), Floor_eq (by omega) (by omega)]
        have hd := div_small (b := x.Curve[firstAt x.Curve n].Flow - x.Curve[firstAt x.Curve n - 1].Flow) (by omega) hm.1 hm.2 up
        cases up with
        | true => simp only [divB, if_true] at hd ⊢; simp only [cond_true, Option.bind_some]; rw [wr_in (by omega) (by omega)]
        | false => simp only [divB, Bool.false_eq_true, if_false] at hd ⊢; simp only [cond_false, Option.bind_some]; rw [wr_in (by omega) (by omega)]
      · intro k hk
        have hk1 : k + 1 < x.Curve.length := by omega
        have := first_lt (n := n) (show k + 1 < firstAt x.Curve n by omega) hk1
        simp only [L_thalwegref01_Curve_1]
        rw [wr_nat (by omega), idx?_nat hk1]
        simp only [Option.bind_some, this, decide_true, cond_true]
      · have := first_at c
        simp only [L_thalwegref01_Curve_1]
        rw [wr_nat (by omega), show firstAt x.Curve n - 1 + 1 = firstAt x.Curve n by omega, idx?_nat c]
        simp only [Option.bind_some, show decide (x.Curve[firstAt x.Curve n].Flow < n) = false by simp; omega, cond_false]
end Go.Ev
/- Chapter 1: the law RiverChecks is true. -/
set_option linter.unusedVariables false
set_option linter.unusedSimpArgs false
namespace Go.Ev
set_option maxHeartbeats 1000000

def levB (x : TReach) (b : TBounds) : TBounds := ⟨minmax true (levelOf x.Curve b.Low false) x.Weir, minmax true (levelOf x.Curve b.High true) x.Weir⟩
theorem minmax_comm (a b : Int) : minmax true a b = minmax true b a := by
  simp only [minmax, if_true]
  split <;> split <;> omega
theorem levelAt_eq {x : TReach} {b : TBounds} (h : curveOk x.Curve = true) : F_river_levelAt (x, b) = some (levB x b) := by
  simp only [F_river_levelAt]
  rw [curveAt_eq (up := false) h (fun a b hb ha => by simpa [divB] using Down_eq hb ha), curveAt_eq (up := true) h (fun a b hb ha => by simpa [divB] using Up_eq hb ha)]
  rfl
theorem refLevel_eq {x : TReach} {b : TBounds} (h : curveOk x.Curve = true) : F_thalwegref01_Level (x, b) = some (levB x b) := by
  simp only [F_thalwegref01_Level, refCurve_eq h, Option.bind_some, levB]
  rw [minmax_comm x.Weir, minmax_comm x.Weir]
theorem reachOk_curve {x : TReach} (h : reachOk x = true) : curveOk x.Curve = true := by
  simp only [reachOk, Bool.and_eq_true] at h
  exact h.2.2.2.2.2
theorem Level_eq (x : TReach) (b : TBounds) : F_river_Level (x, b) = some (if reachOk x then (if vB b 0 210000000000 then (levB x b, 0) else (⟨0, 0⟩, 3)) else (⟨0, 0⟩, 2)) := by
  simp only [F_river_Level, validReach_eq, Option.bind_some, valid_eq]
  cases h : reachOk x with
  | false => rfl
  | true =>
    simp only [Bool.not_true, cond_false, if_true]
    cases vB b 0 210000000000 with
    | false => rfl
    | true => simp only [Bool.not_true, cond_false, if_true, levelAt_eq (reachOk_curve h), Option.bind_some]

theorem checks_true {r : TRiver} {x : TReach} {b : TBounds} (h1 : r.Reaches.length ≤ 140737488355328) (h2 : x.Curve.length ≤ 140737488355328) : F_thalweglaw01_RiverChecks (r, x, b) = some true := by
  simp only [F_thalweglaw01_RiverChecks, large_river h1, Option.bind_some]
  cases hL : largeOf r with
  | true => rfl
  | false =>
    simp only [largeOf, Bool.or_eq_false_iff, decide_eq_false_iff_not, Bool.not_eq_false', List.all_eq_true, decide_eq_true_eq] at hL
    obtain ⟨l1, l2, l3⟩ := hL
    simp only [cond_false]
    by_cases hx : x.Curve.length ≤ 40
    · have hc : F_thalweglaw01_copied r = some r := copied_eq (by omega) (by omega) fun y hy => by have := l3 y hy; omega
      have hu : F_thalweglaw01_unchanged (r, r) = some true := unchanged_eq (by omega) (by omega) fun y hy => by have := l3 y hy; omega
      simp only [show decide ((x.Curve.length : Int) > 40) = false by simp; omega, cond_false, hc, Option.bind_some, Check_eq, refRiver_eq, hu, app_nil (m := x.Curve) (n := 16) (by omega) (by decide), Level_eq, refReach_eq, rvalid_eq, Bool.not_true]
      cases riverOk r <;> cases hr : reachOk x
      · rfl
      · cases vB b 0 210000000000
        · rfl
        · simp [refLevel_eq (reachOk_curve hr), F_thalweglaw01_known]
      · rfl
      · cases vB b 0 210000000000
        · rfl
        · simp [refLevel_eq (reachOk_curve hr), F_thalweglaw01_known]
    · simp only [show decide ((x.Curve.length : Int) > 40) = true by simp; omega, cond_true]
      rfl
end Go.Ev
/- Chapter 1: forecasts, and what a river does with them. -/
set_option linter.unusedVariables false
set_option linter.unusedSimpArgs false
namespace Go.Ev
set_option maxHeartbeats 1000000

theorem every_Bounds {l : List TBounds} {p : TBounds → Option Bool} {q : TBounds → Bool} {g : FuncId} {caps : List V} (hp : ∀ x ∈ l, p x = some (q x)) (hl : l.length ≤ 4611686018427387904) : F_numbers_Every_Bounds (l, p, g, caps) = some (l.all q) := by
  unfold F_numbers_Every_Bounds
  simp only
  rw [show (0 : Int) = ((0 : Nat) : Int) from rfl, loop_list l (fun k => (k : Int)) q (e := .inl ()) (f := .inr false)]
  · cases l.all q <;> rfl
  · intro k hk
    simp only [L_numbers_Every_Bounds_1, Int.ofNat_lt, hk, decide_true, cond_true, idx?_nat hk, Option.bind_some, hp _ (List.getElem_mem hk), wr_nat (show k < 9223372036854775807 by omega)]
    cases q l[k] <;> rfl
  · simp [L_numbers_Every_Bounds_1]
theorem every_LBounds {l : List (List TBounds)} {p : List TBounds → Option Bool} {q : List TBounds → Bool} {g : FuncId} {caps : List V} (hp : ∀ x ∈ l, p x = some (q x)) (hl : l.length ≤ 4611686018427387904) : F_numbers_Every_L_Bounds (l, p, g, caps) = some (l.all q) := by
  unfold F_numbers_Every_L_Bounds
  simp only
  rw [show (0 : Int) = ((0 : Nat) : Int) from rfl, loop_list l (fun k => (k : Int)) q (e := .inl ()) (f := .inr false)]
  · cases l.all q <;> rfl
  · intro k hk
    simp only [L_numbers_Every_L_Bounds_1, Int.ofNat_lt, hk, decide_true, cond_true, idx?_nat hk, Option.bind_some, hp _ (List.getElem_mem hk), wr_nat (show k < 9223372036854775807 by omega)]
    cases q l[k] <;> rfl
  · simp [L_numbers_Every_L_Bounds_1]

def sideOk (l : List TBounds) : Bool := l.all fun b => vB b 0 10000000000
/-- The error of a forecast for a valid river. -/
def fcErr (r : TRiver) (sides : List (List TBounds)) : Int :=
  if sides.length ≠ r.Reaches.length then 4 else
  match sides with
  | [] => 4
  | s :: _ => if s.length = 0 then 4 else if !(sides.all fun x => decide (x.length = s.length)) then 4 else if s.length > 400 then 5 else if !(sides.all sideOk) then 2 else 0
def startErr (r : TRiver) (sides : List (List TBounds)) : Int := if riverOk r then fcErr r sides else 2

theorem len_beq {a b : Nat} : (((a : Int) == (b : Int)) : Bool) = decide (a = b) := by
  rw [Bool.eq_iff_iff]; simp; omega
theorem len_bne {a b : Nat} : (((a : Int) != (b : Int)) : Bool) = !decide (a = b) := by
  rw [bne, len_beq]
theorem checkForecast_eq {r : TRiver} {sides : List (List TBounds)} (hr : riverOk r = true) (hs : ∀ x ∈ sides, x.length ≤ 1000000) : F_river_checkForecast (r, sides) = some (fcErr r sides) := by
  have hl : 1 ≤ r.Reaches.length ∧ r.Reaches.length ≤ 20 := by
    simp only [riverOk, Bool.and_eq_true, inB_iff] at hr
    omega
  simp only [F_river_checkForecast, len_bne]
  by_cases h1 : sides.length = r.Reaches.length
  · simp only [h1, decide_true, Bool.not_true, cond_false, fcErr]
    cases sides with
    | nil => simp only [List.length_nil] at h1; omega
    | cons s m =>
      simp only [List.length_cons] at h1
      rw [show (0 : Int) = ((0 : Nat) : Int) from rfl, idx?_nat (show 0 < (s :: m).length by simp)]
      simp only [Option.bind_some, List.getElem_cons_zero, len_beq]
      by_cases h2 : s.length = 0
      · simp [h2, h1]
      · simp only [h2, decide_false, cond_false]
        rw [every_LBounds (q := fun x => decide (x.length = s.length)) (fun x _ => by simp only [F_river_checkForecast_1, len_beq]) (by simp; omega)]
        simp only [Option.bind_some]
        cases h3 : (s :: m).all fun x => decide (x.length = s.length) with
        | false => simp [h1, h2, h3]
        | true =>
          simp only [Bool.not_true, cond_false]
          by_cases h4 : s.length > 400
          · simp [h1, h2, h3, h4, show ((s.length : Int) > 400) by omega]
          · simp only [show decide ((s.length : Int) > 400) = false by simp; omega, cond_false]
            rw [every_LBounds (q := sideOk) (fun x hx => by
              simp only [F_river_checkForecast_3]
              rw [every_Bounds (q := fun b => vB b 0 10000000000) (fun b _ => by simp only [F_river_checkForecast_2, valid_eq, Option.bind_some]) (by have := hs x hx; omega)]
              rfl) (by simp; omega)]
            simp only [Option.bind_some]
            cases h5 : (s :: m).all sideOk <;> simp [h1, h2, h3, h4, h5]
  · simp [h1, fcErr]

theorem refStart_eq {r : TRiver} {sides : List (List TBounds)} (hs : ∀ x ∈ sides, x.length ≤ 1000000) (hn : sides.length ≤ 1000000) : F_thalwegref01_Start (r, sides) = some (startErr r sides) := by
  simp only [F_thalwegref01_Start, refRiver_eq, Option.bind_some, startErr]
  cases hr : riverOk r with
  | false => rfl
  | true =>
    have hl : 1 ≤ r.Reaches.length ∧ r.Reaches.length ≤ 20 := by
      simp only [riverOk, Bool.and_eq_true, inB_iff] at hr
      omega
    simp only [Bool.not_true, cond_false, len_bne, if_true]
    by_cases h1 : sides.length = r.Reaches.length
    · simp only [h1, decide_true, Bool.not_true, cond_false, fcErr]
      cases sides with
      | nil => simp only [List.length_nil] at h1; omega
      | cons s m =>
        simp only [List.length_cons] at h1
        rw [show (0 : Int) = ((0 : Nat) : Int) from rfl, idx?_nat (show 0 < (s :: m).length by simp)]
        simp only [Option.bind_some, List.getElem_cons_zero, len_beq]
        by_cases h2 : s.length = 0
        · simp [h2, h1]
        · simp only [h2, decide_false, cond_false]
          rw [loop_list (s :: m) (fun k => (k : Int)) (fun x => decide (x.length = s.length)) (e := .inl ()) (f := .inr 4)]
          · cases h3 : (s :: m).all fun x => decide (x.length = s.length) with
            | false => simp [h1, h2, h3]
            | true =>
              simp only [if_true, Option.bind_some]
              by_cases h4 : s.length > 400
              · simp [h1, h2, h3, h4, show ((s.length : Int) > 400) by omega]
              · simp only [show decide ((s.length : Int) > 400) = false by simp; omega, cond_false]
                rw [loop_list (s :: m) (fun k => (k : Int)) sideOk (e := .inl ()) (f := .inr 2)]
                · cases h5 : (s :: m).all sideOk <;> simp [h1, h2, h3, h4, h5]
                · intro k hk
                  simp only [L_thalwegref01_Start_3, Int.ofNat_lt, hk, decide_true, cond_true]
                  have hkl := hs _ (List.getElem_mem hk)
                  rw [show (0 : Int) = ((0 : Nat) : Int) from rfl, loop_list (s :: m)[k] (fun j => (j : Int)) (fun b => vB b 0 10000000000) (e := .inl ()) (f := .inr 2)]
                  · rw [wr_nat (by omega)]
                    have hq : sideOk (s :: m)[k] = (s :: m)[k].all fun b => vB b 0 10000000000 := rfl
                    rw [← hq]
                    cases h : sideOk (s :: m)[k] with
                    | true => rfl
                    | false => rfl
                  · intro j hj
                    simp only [L_thalwegref01_Start_2, idx?_nat hk, Option.bind_some, Int.ofNat_lt, hj, decide_true, cond_true, idx?_nat hj, rvalid_eq]
                    rw [wr_nat (by omega)]
                    cases vB (s :: m)[k][j] 0 10000000000 <;> rfl
                  · simp [L_thalwegref01_Start_2, idx?_nat hk]
                · simp [L_thalwegref01_Start_3]
          · intro k hk
            simp only [L_thalwegref01_Start_1, Int.ofNat_lt, hk, decide_true, cond_true, idx?_nat hk, Option.bind_some]
            rw [show (0 : Int) = ((0 : Nat) : Int) from rfl, idx?_nat (show 0 < (s :: m).length by simp), wr_nat (by omega)]
            simp only [Option.bind_some, List.getElem_cons_zero, len_bne]
            cases decide ((s :: m)[k].length = s.length) <;> rfl
          · simp [L_thalwegref01_Start_1]
    · simp [h1, fcErr]

theorem forecast_eq {l : List (List TBounds)} (hn : l.length ≤ 1000000) (hs : ∀ x ∈ l, x.length ≤ 1000000) : F_thalweglaw01_forecast l = some l := by
  unfold F_thalweglaw01_forecast
  simp only
  rw [show ((0 : Int), ([] : List (List TBounds))) = (fun k : Nat => ((k : Int), l.take k)) 0 from rfl, loop_run (fun k : Nat => ((k : Int), l.take k)) l.length (e := l)]
  · rfl
  · intro k hk
    simp only [L_thalweglaw01_forecast_1, Int.ofNat_lt, hk, decide_true, cond_true, idx?_nat hk, Option.bind_some]
    have := hs _ (List.getElem_mem hk)
    rw [app_nil (by omega) (by decide)]
    simp only [Option.bind_some]
    rw [app_of (by simp [Nat.min_eq_left (Nat.le_of_lt hk)]; omega) (by decide), wr_nat (by omega)]
    simp only [Option.bind_some, List.take_succ_eq_append_getElem hk]
  · simp [L_thalweglaw01_forecast_1]
end Go.Ev
/- Chapter 1: flows. -/
set_option linter.unusedVariables false
set_option linter.unusedSimpArgs false
namespace Go.Ev
set_option maxHeartbeats 1000000

def addB (a b : TBounds) : TBounds := ⟨a.Low + b.Low, a.High + b.High⟩
def sumB : List TBounds → TBounds
  | [] => ⟨0, 0⟩
  | a :: l => addB a (sumB l)
/-- Bounds from 0 to a number. -/
def upTo (n : Int) (b : TBounds) : Prop := 0 ≤ b.Low ∧ b.Low ≤ b.High ∧ b.High ≤ n
theorem sum_bound {n : Int} (hn : 0 ≤ n) : ∀ {l : List TBounds}, (∀ b ∈ l, upTo n b) → upTo (n * l.length) (sumB l)
  | [], _ => by simp [upTo, sumB]
  | a :: l, h => by
    obtain ⟨a1, a2, a3⟩ := h a (by simp)
    obtain ⟨b1, b2, b3⟩ := sum_bound hn (l := l) fun b hb => h b (by simp [hb])
    simp only [upTo, sumB, addB, List.length_cons] at *
    have e : n * ((l.length + 1 : Nat) : Int) = n * (l.length : Int) + n := by rw [Int.natCast_add, Int.mul_add]; simp
    rw [e]
    omega
theorem sum_loop (l : List TBounds) {n : Int} (hn : 0 ≤ n) (hn' : n ≤ 1000000000000) (hl : l.length ≤ 100000) : ∀ (m : List TBounds) (k : Nat) (a b : Int), l.drop k = m → (∀ x ∈ m, upTo n x) → 0 ≤ a → a ≤ n * k → 0 ≤ b → b ≤ n * k →
    loopC (L_numbers_Sum_1 l).step ((k : Int), a, b) = some (a + (sumB m).Low, b + (sumB m).High)
  | [], k, a, b, h, _, _, _, _, _ => by
    have := drop_nil h
    rw [loopC_eq]
    simp [L_numbers_Sum_1, show ¬ k < l.length by omega, sumB]
  | x :: m, k, a, b, h, hx, ha, ha', hb, hb' => by
    obtain ⟨hk, hg, hd⟩ := drop_cons h
    obtain ⟨x1, x2, x3⟩ := hx x (by simp)
    have hnk : n * (k : Int) ≤ 1000000000000 * 100000 := by
      have h1 : n * (k : Int) ≤ 1000000000000 * (k : Int) := Int.mul_le_mul_of_nonneg_right hn' (by omega)
      omega
    have e : n * ((k + 1 : Nat) : Int) = n * (k : Int) + n := by rw [Int.natCast_add, Int.mul_add]; simp
    have hs : (L_numbers_Sum_1 l).step ((k : Int), a, b) = some (.inl (((k + 1 : Nat) : Int), a + x.Low, b + x.High)) := by
      simp only [L_numbers_Sum_1, Int.ofNat_lt, hk, decide_true, cond_true, idx?_nat hk, Option.bind_some, hg]
      rw [wr_nat (by omega), wr_in (n := a + x.Low) (by omega) (by omega), wr_in (n := b + x.High) (by omega) (by omega)]
    rw [loopC_eq, hs]
    simp only
    rw [sum_loop l hn hn' hl m (k + 1) (a + x.Low) (b + x.High) hd (fun y hy => hx y (by simp [hy])) (by omega) (by omega) (by omega) (by omega)]
    simp only [sumB, addB]
    rw [Int.add_assoc, Int.add_assoc]
theorem Sum_eq {l : List TBounds} {n : Int} (hn : 0 ≤ n) (hn' : n ≤ 1000000000000) (hl : l.length ≤ 100000) (hx : ∀ x ∈ l, upTo n x) : F_numbers_Sum l = some (sumB l) := by
  unfold F_numbers_Sum
  simp only
  rw [show ((0 : Int), (0 : Int), (0 : Int)) = (((0 : Nat) : Int), (0 : Int), (0 : Int)) from rfl, sum_loop l hn hn' hl l 0 0 0 rfl hx (by omega) (by simp) (by omega) (by simp)]
  simp

def noReach : TReach := ⟨0, 0, ⟨0, 0⟩, [], 0, ⟨0, 0⟩, 0⟩
def reachAt (r : TRiver) (i : Nat) : TReach := r.Reaches[i]?.getD noReach
def getB (l : List (List TBounds)) (i k : Nat) : TBounds := (l[i]?.getD [])[k]?.getD ⟨0, 0⟩
/-- The flow of a reach in an hour. -/
def flowAt (r : TRiver) (sides : List (List TBounds)) : Nat → Int → TBounds
  | 0, h => if h < 0 then (reachAt r 0).Base else getB sides 0 h.toNat
  | i + 1, h => if h < 0 then (reachAt r (i + 1)).Base else addB (getB sides (i + 1) h.toNat) (flowAt r sides i (h - (reachAt r i).Delay))

/-- A valid river and a forecast for it. -/
structure FcOk (r : TRiver) (sides : List (List TBounds)) (H : Nat) : Prop where
  river : riverOk r = true
  len : sides.length = r.Reaches.length
  pos : 1 ≤ H
  most : H ≤ 400
  hours : ∀ s ∈ sides, s.length = H
  valid : ∀ s ∈ sides, ∀ b ∈ s, upTo 10000000000 b
theorem fcOk_of {r : TRiver} {sides : List (List TBounds)} (h : startErr r sides = 0) : ∃ H, FcOk r sides H := by
  unfold startErr at h
  split at h
  · next hr =>
    unfold fcErr at h
    split at h
    · cases h
    · next hl =>
      split at h
      · cases h
      · next s m =>
        split at h
        · cases h
        · next h0 =>
          split at h
          · cases h
          · next h1 =>
            split at h
            · cases h
            · next h2 =>
              split at h
              · cases h
              · next h3 =>
                simp only [Bool.not_eq_true', Bool.not_eq_false, List.all_eq_true, decide_eq_true_eq] at h1 h3
                refine ⟨s.length, hr, by omega, by omega, by omega, h1, fun x hx b hb => ?_⟩
                have := List.all_eq_true.1 (h3 x hx) b hb
                simp only [vB, inB, Bool.and_eq_true, decide_eq_true_eq] at this
                unfold upTo
                omega
  · cases h
theorem FcOk.bounds {r : TRiver} {sides : List (List TBounds)} {H : Nat} (h : FcOk r sides H) : 1 ≤ r.Reaches.length ∧ r.Reaches.length ≤ 20 ∧ ∀ i, i < r.Reaches.length → reachOk (reachAt r i) = true := by
  have hr := h.river
  simp only [riverOk, Bool.and_eq_true, inB_iff, List.all_eq_true] at hr
  refine ⟨by omega, by omega, fun i hi => ?_⟩
  rw [reachAt, List.getElem?_eq_getElem hi]
  exact hr.2.1 _ (List.getElem_mem hi)
theorem reach_of {x : TReach} (h : reachOk x = true) : 0 ≤ x.Delay ∧ x.Delay ≤ 200 ∧ upTo 10000000000 x.Base := by
  simp only [reachOk, Bool.and_eq_true, inB_iff, vB, decide_eq_true_eq] at h
  unfold upTo
  omega
theorem FcOk.getB_upTo {r : TRiver} {sides : List (List TBounds)} {H : Nat} (h : FcOk r sides H) (i k : Nat) : upTo 10000000000 (getB sides i k) := by
  unfold getB
  cases hi : sides[i]? with
  | none => simp [upTo]
  | some s =>
    cases hk : s[k]? with
    | none => simp [upTo, hk]
    | some b =>
      simp only [Option.getD_some, hk]
      exact h.valid s (List.mem_of_getElem? hi) b (List.mem_of_getElem? hk)
theorem FcOk.flow_upTo {r : TRiver} {sides : List (List TBounds)} {H : Nat} (h : FcOk r sides H) : ∀ (i : Nat) (k : Int), i < r.Reaches.length → upTo (10000000000 * ((i : Int) + 1)) (flowAt r sides i k)
  | 0, k, hi => by
    have h1 := reach_of (h.bounds.2.2 0 hi)
    have h2 := h.getB_upTo 0 k.toNat
    unfold flowAt
    split
    · exact h1.2.2
    · exact h2
  | i + 1, k, hi => by
    have h1 := reach_of (h.bounds.2.2 (i + 1) hi)
    obtain ⟨a1, a2, a3⟩ := h.getB_upTo (i + 1) k.toNat
    obtain ⟨b1, b2, b3⟩ := h.flow_upTo i (k - (reachAt r i).Delay) (by omega)
    obtain ⟨_, _, c1, c2, c3⟩ := h1
    rw [flowAt]
    split
    · unfold upTo; refine ⟨c1, c2, ?_⟩; simp only [Int.natCast_add]; omega
    · simp only [upTo, addB, Int.natCast_add]; omega

theorem getB_eq {sides : List (List TBounds)} {i k : Nat} (hi : i < sides.length) (hk : k < sides[i].length) : getB sides i k = sides[i][k] := by
  simp [getB, hi, hk]
theorem reachAt_eq {r : TRiver} {i : Nat} (hi : i < r.Reaches.length) : r.Reaches[i] = reachAt r i := by simp [reachAt, hi]

/-- The reference's flow. -/
theorem flow_step {r : TRiver} {sides : List (List TBounds)} {H : Nat} (h : FcOk r sides H) {i : Nat} (hi : i < r.Reaches.length) {k : Int} (hk : k < H) (hk' : -1000 ≤ k) (f : TRiver × List (List TBounds) × Int × Int → Option TBounds) :
    B_thalwegref01_Flow f (r, sides, (i : Int), k) = if k < 0 then some (reachAt r i).Base else match i with
      | 0 => some (getB sides 0 k.toNat)
      | i + 1 => (f (r, sides, (i : Int), k - (reachAt r i).Delay)).bind fun y => some ⟨wr ((getB sides (i + 1) k.toNat).Low + y.Low), wr ((getB sides (i + 1) k.toNat).High + y.High)⟩ := by
  simp only [B_thalwegref01_Flow]
  by_cases c : k < 0
  · simp only [c, decide_true, cond_true, if_true, idx?_nat hi, Option.bind_some, reachAt_eq hi]
  · have his : i < sides.length := by rw [h.len]; exact hi
    have hks : k.toNat < sides[i].length := by rw [h.hours _ (List.getElem_mem his)]; omega
    have e : k = (k.toNat : Int) := by omega
    simp only [c, decide_false, cond_false, if_false, idx?_nat his, Option.bind_some]
    have hx : idx? sides[i] ((k.toNat : Nat) : Int) = some (getB sides i k.toNat) := by rw [idx?_nat hks, getB_eq his hks]
    have hb := h.bounds
    have hm := h.most
    rw [(congrArg (idx? sides[i]) e).trans hx]
    simp only [Option.bind_some]
    cases i with
    | zero => simp
    | succ i =>
      have hd := reach_of (h.bounds.2.2 i (by omega))
      simp only [show decide (((i + 1 : Nat) : Int) > 0) = true by simp, cond_true]
      rw [show wr (((i + 1 : Nat) : Int) - 1) = (i : Int) by rw [wr_in] <;> omega, idx?_nat (show i < r.Reaches.length by omega)]
      simp only [Option.bind_some, reachAt_eq (show i < r.Reaches.length by omega)]
      rw [wr_in (n := k - (reachAt r i).Delay) (by omega) (by omega)]
theorem flow_add {r : TRiver} {sides : List (List TBounds)} {H : Nat} (h : FcOk r sides H) {i : Nat} (hi : i + 1 < r.Reaches.length) (k : Nat) (j : Int) :
    (⟨wr ((getB sides (i + 1) k).Low + (flowAt r sides i j).Low), wr ((getB sides (i + 1) k).High + (flowAt r sides i j).High)⟩ : TBounds) = addB (getB sides (i + 1) k) (flowAt r sides i j) := by
  obtain ⟨a1, a2, a3⟩ := h.getB_upTo (i + 1) k
  obtain ⟨b1, b2, b3⟩ := h.flow_upTo i j (by omega)
  have := h.bounds
  rw [wr_in (by omega) (by omega), wr_in (by omega) (by omega)]
  rfl
theorem flow_is {r : TRiver} {sides : List (List TBounds)} {H : Nat} (h : FcOk r sides H) : ∀ (i : Nat) (k : Int), i < r.Reaches.length → k < H → -1000 ≤ k → recN B_thalwegref01_Flow (i + 1) (r, sides, (i : Int), k) = some (flowAt r sides i k) ∧ ∀ m z, recN B_thalwegref01_Flow m (r, sides, (i : Int), k) = some z → z = flowAt r sides i k
  | 0, k, hi, hk, hk' => by
    have hs := flow_step h hi hk hk'
    have e : ∀ f, B_thalwegref01_Flow f (r, sides, ((0 : Nat) : Int), k) = some (flowAt r sides 0 k) := by
      intro f
      rw [hs f, flowAt]
      split <;> rfl
    refine ⟨e _, fun m z hm => ?_⟩
    cases m with
    | zero => cases hm
    | succ m => rw [recN, e] at hm; exact (Option.some.inj hm).symm
  | i + 1, k, hi, hk, hk' => by
    have hs := flow_step h hi hk hk'
    have hd := reach_of (h.bounds.2.2 i (by omega))
    by_cases c : k < 0
    · have e : ∀ f, B_thalwegref01_Flow f (r, sides, ((i + 1 : Nat) : Int), k) = some (flowAt r sides (i + 1) k) := by
        intro f
        rw [hs f, flowAt, if_pos c, if_pos c]
      refine ⟨e _, fun m z hm => ?_⟩
      cases m with
      | zero => cases hm
      | succ m => rw [recN, e] at hm; exact (Option.some.inj hm).symm
    · obtain ⟨h1, h2⟩ := flow_is h i (k - (reachAt r i).Delay) (by omega) (by omega) (by omega)
      have ef : flowAt r sides (i + 1) k = addB (getB sides (i + 1) k.toNat) (flowAt r sides i (k - (reachAt r i).Delay)) := by rw [flowAt, if_neg c]
      refine ⟨?_, fun m z hm => ?_⟩
      · rw [recN, hs, if_neg c, ef]
        simp only
        rw [h1]
        simp only [Option.bind_some, flow_add h hi]
      · cases m with
        | zero => cases hm
        | succ m =>
          rw [recN, hs, if_neg c] at hm
          simp only at hm
          cases hr : recN B_thalwegref01_Flow m (r, sides, (i : Int), k - (reachAt r i).Delay) with
          | none => rw [hr] at hm; cases hm
          | some y =>
            rw [hr] at hm
            have := h2 m y hr
            subst this
            simp only [Option.bind_some, flow_add h hi, Option.some.injEq] at hm
            rw [← hm, ef]
theorem Flow_eq {r : TRiver} {sides : List (List TBounds)} {H : Nat} (h : FcOk r sides H) {i : Nat} {k : Int} (hi : i < r.Reaches.length) (hk : k < H) (hk' : -1000 ≤ k) : F_thalwegref01_Flow (r, sides, (i : Int), k) = some (flowAt r sides i k) :=
  fixC_of (flow_is h i k hi hk hk').1 (flow_is h i k hi hk hk').2
end Go.Ev
/- Chapter 1: a river runs. -/
set_option linter.unusedVariables false
set_option linter.unusedSimpArgs false
namespace Go.Ev
set_option maxHeartbeats 1000000

def rowOf (r : TRiver) (sides : List (List TBounds)) (H i : Nat) : List TBounds := (List.range H).map fun (k : Nat) => flowAt r sides i (k : Int)
def flowsTo (r : TRiver) (sides : List (List TBounds)) (H n : Nat) : List (List TBounds) := (List.range n).map fun i => rowOf r sides H i
theorem rowOf_length (r : TRiver) (sides : List (List TBounds)) (H i : Nat) : (rowOf r sides H i).length = H := by simp [rowOf]
theorem rowOf_get (r : TRiver) (sides : List (List TBounds)) (H i k : Nat) (h : k < (rowOf r sides H i).length) : (rowOf r sides H i)[k] = flowAt r sides i (k : Int) := by simp [rowOf]
theorem flowsTo_length (r : TRiver) (sides : List (List TBounds)) (H n : Nat) : (flowsTo r sides H n).length = n := by simp [flowsTo]
theorem flowsTo_get (r : TRiver) (sides : List (List TBounds)) (H n i : Nat) (h : i < (flowsTo r sides H n).length) : (flowsTo r sides H n)[i] = rowOf r sides H i := by simp [flowsTo]
theorem flowsTo_succ (r : TRiver) (sides : List (List TBounds)) (H n : Nat) : flowsTo r sides H (n + 1) = flowsTo r sides H n ++ [rowOf r sides H n] := by simp [flowsTo, List.range_succ]

theorem fill_set {α : Type} (row : List α) (z : α) (k : Nat) (h : k < row.length) : (row.take k ++ List.replicate (row.length - k) z).set k row[k] = row.take (k + 1) ++ List.replicate (row.length - (k + 1)) z := by
  have e : row.length - k = (row.length - (k + 1)) + 1 := by omega
  rw [e, List.replicate_succ, List.set_append_right _ _ (by simp; omega), List.take_succ_eq_append_getElem h]
  have hm : min k row.length = k := Nat.min_eq_left (Nat.le_of_lt h)
  simp only [List.length_take, hm, Nat.sub_self, List.set_cons_zero, List.append_assoc, List.cons_append, List.nil_append]
theorem set?_of {α : Type} {l : List α} {j : Nat} {x : α} (h : j < l.length) : set? l (j : Int) x = some (l.set j x) := by
  unfold set?
  rw [if_pos (by omega)]
  simp

/-- What comes into a reach. -/
def inOf (r : TRiver) (sides : List (List TBounds)) : Nat → Nat → TBounds
  | 0, _ => ⟨0, 0⟩
  | i + 1, k => flowAt r sides i ((k : Int) - (reachAt r i).Delay)
theorem inflow_eq {r : TRiver} {sides : List (List TBounds)} {H : Nat} (h : FcOk r sides H) {i k n : Nat} (hi : i < r.Reaches.length) (hk : k < H) (hn : i ≤ n) :
    F_river_stream_inflow (⟨r, flowsTo r sides H n⟩, (i : Int), (k : Int)) = some (inOf r sides i k) := by
  simp only [F_river_stream_inflow]
  cases i with
  | zero => simp [inOf]
  | succ i =>
    simp only [inOf]
    have hd := reach_of (h.bounds.2.2 i (by omega))
    have hb := h.bounds
    have hm := h.most
    simp only [show ((((i + 1 : Nat) : Int) == 0) : Bool) = false by simp; omega, cond_false]
    rw [show wr (((i + 1 : Nat) : Int) - 1) = (i : Int) by rw [wr_in] <;> omega, idx?_nat (show i < r.Reaches.length by omega)]
    simp only [Option.bind_some, reachAt_eq (show i < r.Reaches.length by omega)]
    by_cases c : (k : Int) < (reachAt r i).Delay
    · simp only [c, decide_true, cond_true, Option.some.injEq]
      cases i <;> rw [flowAt, if_pos (by omega)]
    · simp only [c, decide_false, cond_false]
      rw [idx?_nat (show i < (flowsTo r sides H n).length by rw [flowsTo_length]; omega)]
      simp only [Option.bind_some, flowsTo_get]
      rw [wr_in (n := (k : Int) - (reachAt r i).Delay) (by omega) (by omega)]
      have e : (k : Int) - (reachAt r i).Delay = (((k : Int) - (reachAt r i).Delay).toNat : Int) := by omega
      have hx : idx? (rowOf r sides H i) (((k : Int) - (reachAt r i).Delay).toNat : Int) = some (flowAt r sides i ((k : Int) - (reachAt r i).Delay)) := by
        rw [idx?_nat (by rw [rowOf_length]; omega), rowOf_get, ← e]
      rw [(congrArg (idx? (rowOf r sides H i)) e).trans hx]
      rfl

theorem Sum2_eq {r : TRiver} {sides : List (List TBounds)} {H : Nat} (h : FcOk r sides H) {i k : Nat} (hi : i < r.Reaches.length) :
    F_numbers_Sum [getB sides i k, inOf r sides i k] = some (flowAt r sides i (k : Int)) := by
  obtain ⟨hb1, hb2, _⟩ := h.bounds
  rw [Sum_eq (n := 1000000000000) (by omega) (by omega) (by simp)]
  · simp only [sumB, addB]
    cases i with
    | zero => rw [flowAt, if_neg (by omega)]; simp [inOf]
    | succ i => rw [flowAt, if_neg (by omega)]; simp [inOf, addB]
  · intro x hx
    simp only [List.mem_cons, List.not_mem_nil, or_false] at hx
    rcases hx with rfl | rfl
    · obtain ⟨a1, a2, a3⟩ := h.getB_upTo i k
      exact ⟨a1, a2, by omega⟩
    · cases i with
      | zero => simp [upTo, inOf]
      | succ i =>
        rw [inOf]
        obtain ⟨a1, a2, a3⟩ := h.flow_upTo i ((k : Int) - (reachAt r i).Delay) (by omega)
        exact ⟨a1, a2, by omega⟩

theorem run_eq {r : TRiver} {sides : List (List TBounds)} {H : Nat} (h : FcOk r sides H) (hz : startErr r sides = 0) (hs : ∀ x ∈ sides, x.length ≤ 1000000) : F_river_run (r, sides) = some (⟨r, flowsTo r sides H sides.length⟩, 0) := by
  have hb := h.bounds
  have hm := h.most
  have hfc : fcErr r sides = 0 := by simpa [startErr, h.river] using hz
  simp only [F_river_run, Check_eq, h.river, if_true, Option.bind_some, checkForecast_eq h.river hs, hfc, bne_self_eq_false, cond_false]
  rw [show ((0 : Int), ([] : List (List TBounds))) = (fun i : Nat => ((i : Int), flowsTo r sides H i)) 0 from rfl, loop_run (fun i : Nat => ((i : Int), flowsTo r sides H i)) sides.length (e := flowsTo r sides H sides.length)]
  · rfl
  · intro i hi
    have hir : i < r.Reaches.length := by rw [← h.len]; exact hi
    have hsi := h.hours _ (List.getElem_mem hi)
    simp only [L_river_run_2, Int.ofNat_lt, hi, decide_true, cond_true, idx?_nat hi, Option.bind_some]
    have hmk : mk? (⟨0, 0⟩ : TBounds) ((sides[i].length : Nat) : Int) 16 = some (List.replicate H ⟨0, 0⟩) := by
      unfold mk?
      rw [if_pos (by omega), hsi]
      rfl
    rw [hmk]
    simp only [Option.bind_some]
    have hrl := rowOf_length r sides H i
    rw [show ((0 : Int), List.replicate H (⟨0, 0⟩ : TBounds)) = (fun k : Nat => ((k : Int), (rowOf r sides H i).take k ++ List.replicate ((rowOf r sides H i).length - k) (⟨0, 0⟩ : TBounds))) 0 from by simp [hrl],
      loop_run (fun k : Nat => ((k : Int), (rowOf r sides H i).take k ++ List.replicate ((rowOf r sides H i).length - k) (⟨0, 0⟩ : TBounds))) H (e := rowOf r sides H i)]
    · simp only [Option.bind_some]
      rw [app_of (by rw [flowsTo_length]; simp; omega) (by decide), wr_nat (by omega), flowsTo_succ]
      rfl
    · intro k hk
      simp only [L_river_run_1, hsi, Int.ofNat_lt, hk, decide_true, cond_true, idx?_nat (show k < sides[i].length by omega), Option.bind_some, inflow_eq h hir hk (Nat.le_refl i)]
      rw [← getB_eq hi (show k < sides[i].length by omega), Sum2_eq h hir]
      simp only [Option.bind_some]
      have hlen : k < ((rowOf r sides H i).take k ++ List.replicate ((rowOf r sides H i).length - k) (⟨0, 0⟩ : TBounds)).length := by simp [hrl]; omega
      rw [idx?_nat hlen]
      simp only [Option.bind_some]
      rw [set?_of hlen, wr_nat (by omega)]
      have hkr : k < (rowOf r sides H i).length := by omega
      have := fill_set (rowOf r sides H i) ⟨0, 0⟩ k hkr
      rw [rowOf_get] at this
      rw [this]
      rfl
    · simp only [L_river_run_1, hsi]
      simp [hrl, List.take_of_length_le]
  · simp [L_river_run_2]
theorem run_err {r : TRiver} {sides : List (List TBounds)} (hz : startErr r sides ≠ 0) (hs : ∀ x ∈ sides, x.length ≤ 1000000) : F_river_run (r, sides) = some (⟨⟨[], []⟩, []⟩, startErr r sides) := by
  simp only [F_river_run, Check_eq, Option.bind_some]
  unfold startErr at hz ⊢
  cases hr : riverOk r with
  | false => rfl
  | true =>
    rw [hr] at hz
    simp only [if_true] at hz
    simp only [if_true, bne_self_eq_false, cond_false, checkForecast_eq hr hs, Option.bind_some, show (fcErr r sides != 0) = true by simpa using hz, cond_true]
end Go.Ev
