/- A part of the proof of RiverKeeps. -/
import Derived.Test.YteajfcmpmcopoaaProg
import Derived.Test.YteajfcmpmcopoaaW2
/- What the functions do over typed data. -/
set_option linter.unusedVariables false
set_option linter.unusedSimpArgs false
namespace Go.Ev
open Go.Proofs
set_option maxHeartbeats 1000000
set_option maxRecDepth 100000
structure TBounds where
  Low : Int
  High : Int
  deriving DecidableEq
def eTBounds (x : TBounds) : List V := [(V.v (.int .i64 (x.Low))), (V.v (.int .i64 (x.High)))]
structure TRateRow where
  Flow : Int
  Level : Int
  deriving DecidableEq
def eTRateRow (x : TRateRow) : List V := [(V.v (.int .i64 (x.Flow))), (V.v (.int .i64 (x.Level)))]
structure TReach where
  Length : Int
  Delay : Int
  Base : TBounds
  Curve : List TRateRow
  Weir : Int
  Bottom : TBounds
  Flood : Int
  deriving DecidableEq
def eTReach (x : TReach) : List V := [(V.v (.int .i64 (x.Length))), (V.v (.int .i64 (x.Delay))), (V.v (.int .i64 (x.Base.Low))), (V.v (.int .i64 (x.Base.High))), (V.sl (recs eTRateRow (x.Curve)) (x.Curve).length), (V.v (.int .i64 (x.Weir))), (V.v (.int .i64 (x.Bottom.Low))), (V.v (.int .i64 (x.Bottom.High))), (V.v (.int .i64 (x.Flood)))]
structure TShoal where
  Place : Int
  Bed : TBounds
  Sounded : Int
  Grow : TBounds
  deriving DecidableEq
def eTShoal (x : TShoal) : List V := [(V.v (.int .i64 (x.Place))), (V.v (.int .i64 (x.Bed.Low))), (V.v (.int .i64 (x.Bed.High))), (V.v (.int .i64 (x.Sounded))), (V.v (.int .i64 (x.Grow.Low))), (V.v (.int .i64 (x.Grow.High)))]
structure TRiver where
  Reaches : List TReach
  Shoals : List TShoal
  deriving DecidableEq
def eTRiver (x : TRiver) : List V := [(V.sl (recs eTReach (x.Reaches)) (x.Reaches).length), (V.sl (recs eTShoal (x.Shoals)) (x.Shoals).length)]
structure Tthalweglaw01_Forecast where
  River : TRiver
  Sides : List (List TBounds)
  deriving DecidableEq
def eTthalweglaw01_Forecast (x : Tthalweglaw01_Forecast) : List V := [(V.sl (recs eTReach (x.River.Reaches)) (x.River.Reaches).length), (V.sl (recs eTShoal (x.River.Shoals)) (x.River.Shoals).length), (V.sl (recs (eS eTBounds) (x.Sides)) (x.Sides).length)]
structure Triver_site where
  Reach : TReach
  number_ : Int
  place_ : Int
  shoals_ : List TShoal
  deriving DecidableEq
def eTriver_site (x : Triver_site) : List V := [(V.v (.int .i64 (x.Reach.Length))), (V.v (.int .i64 (x.Reach.Delay))), (V.v (.int .i64 (x.Reach.Base.Low))), (V.v (.int .i64 (x.Reach.Base.High))), (V.sl (recs eTRateRow (x.Reach.Curve)) (x.Reach.Curve).length), (V.v (.int .i64 (x.Reach.Weir))), (V.v (.int .i64 (x.Reach.Bottom.Low))), (V.v (.int .i64 (x.Reach.Bottom.High))), (V.v (.int .i64 (x.Reach.Flood))), (V.v (.int .i64 (x.number_))), (V.v (.int .i64 (x.place_))), (V.sl (recs eTShoal (x.shoals_)) (x.shoals_).length)]
structure Triver_stream where
  River : TRiver
  flows_ : List (List TBounds)
  deriving DecidableEq
def eTriver_stream (x : Triver_stream) : List V := [(V.sl (recs eTReach (x.River.Reaches)) (x.River.Reaches).length), (V.sl (recs eTShoal (x.River.Shoals)) (x.River.Shoals).length), (V.sl (recs (eS eTBounds) (x.flows_)) (x.flows_).length)]
structure Tanon65 where
  a0 : Int
  a1 : Int
  a2 : Int
  deriving DecidableEq
def eTanon65 (x : Tanon65) : List V := [(V.v (.int .i64 (x.a0))), (V.v (.int .i64 (x.a1))), (V.v (.int .i64 (x.a2)))]

noncomputable def L_thalweglaw01_large_1 (a0 : Tthalweglaw01_Forecast) : LoopD (Int) (Unit ⊕ Bool) (Unit) where
  step := fun s => match s with
    | s1 =>
      bif (decide (s1 < ((a0.River.Reaches).length : Int))) then
        (idx? (a0.River.Reaches) (s1)).bind fun x3 =>
        bif (decide (((x3.Curve).length : Int) > 40)) then
          some (.inr (.inr true))
        else
          some (.inl (wr (s1 + 1)))
      else
        some (.inr (.inl ()))
  at_ := fun s gh => match s, gh with
    | s1, () => ⟨[(1, (V.box 0 0)), (2, (V.v (.bool (false)))), (3, (V.v (.int .i64 (s1))))], [(0, Bx.var [(V.sl (recs eTReach (a0.River.Reaches)) (a0.River.Reaches).length), (V.sl (recs eTShoal (a0.River.Shoals)) (a0.River.Shoals).length), (V.sl (recs (eS eTBounds) (a0.Sides)) (a0.Sides).length)] false)], 1⟩
noncomputable def L_thalweglaw01_large_2 (a0 : Tthalweglaw01_Forecast) : LoopD (Int) (Unit ⊕ Bool) (Unit) where
  step := fun s => match s with
    | s4 =>
      bif (decide (s4 < ((a0.Sides).length : Int))) then
        (idx? (a0.Sides) (s4)).bind fun x6 =>
        bif (decide (((x6).length : Int) > 450)) then
          some (.inr (.inr true))
        else
          some (.inl (wr (s4 + 1)))
      else
        some (.inr (.inl ()))
  at_ := fun s gh => match s, gh with
    | s4, () => ⟨[(1, (V.box 0 0)), (2, (V.v (.bool (false)))), (4, (V.v (.int .i64 (s4))))], [(0, Bx.var [(V.sl (recs eTReach (a0.River.Reaches)) (a0.River.Reaches).length), (V.sl (recs eTShoal (a0.River.Shoals)) (a0.River.Shoals).length), (V.sl (recs (eS eTBounds) (a0.Sides)) (a0.Sides).length)] false)], 1⟩
noncomputable def F_thalweglaw01_large : (Tthalweglaw01_Forecast) → Option (Bool) := fun x => match x with
  | (a0) =>
    bif (decide (((a0.River.Reaches).length : Int) > 25)) then
      some true
    else
      bif (decide (((a0.River.Shoals).length : Int) > 50)) then
        some true
      else
        bif (decide (((a0.Sides).length : Int) > 25)) then
          some true
        else
          (loopC (L_thalweglaw01_large_1 a0).step 0).bind fun e => match e with
          | (.inl ()) =>
            (loopC (L_thalweglaw01_large_2 a0).step 0).bind fun e => match e with
            | (.inl ()) =>
              some false
            | (.inr r7) =>
              some r7
          | (.inr r8) =>
            some r8

noncomputable def L_thalweglaw01_copied_1 (a0 : TRiver) : LoopD (Int × (List TReach)) (((List TReach))) (Unit) where
  step := fun s => match s with
    | (s1, s2) =>
      bif (decide (s1 < ((a0.Reaches).length : Int))) then
        (idx? (a0.Reaches) (s1)).bind fun x6 =>
        (app? (([] : List TRateRow)) (x6.Curve) 16).bind fun l7 =>
        (app? (s2) (([(⟨x6.Length, x6.Delay, x6.Base, l7, x6.Weir, x6.Bottom, x6.Flood⟩ : TReach)] : List TReach)) 88).bind fun l8 =>
        some (.inl ((wr (s1 + 1)), l8))
      else
        some (.inr s2)
  at_ := fun s gh => match s, gh with
    | (s1, s2), () => ⟨[(1, (V.box 0 0)), (2, (V.box 1 0)), (3, (V.osl 2 (s2).length)), (4, (V.v (.int .i64 (s1))))], [(0, Bx.var [(V.sl (recs eTReach (a0.Reaches)) (a0.Reaches).length), (V.sl (recs eTShoal (a0.Shoals)) (a0.Shoals).length)] false), (1, Bx.var [(V.v (.slice none 0 0)), (V.v (.slice none 0 0))] false), (2, Bx.row 30 9 (recs eTReach (s2)) 0)], 3⟩
noncomputable def F_thalweglaw01_copied : (TRiver) → Option (TRiver) := fun x => match x with
  | (a0) =>
    (loopC (L_thalweglaw01_copied_1 a0).step (0, ([] : List TReach))).bind fun e => match e with
    | s9 =>
      (app? (([] : List TShoal)) (a0.Shoals) 48).bind fun l10 =>
      some (⟨s9, l10⟩ : TRiver)

noncomputable def L_numbers_Every_int_1 (a1 : (Int → Option Bool)) (a0 : List Int) (g : FuncId) (caps : List V) : LoopD (Int) (Unit ⊕ Bool) (Unit) where
  step := fun s => match s with
    | s1 =>
      bif (decide (s1 < ((a0).length : Int))) then
        (idx? (a0) (s1)).bind fun x4 =>
        (a1 (x4)).bind fun y5 =>
        bif (!y5) then
          some (.inr (.inr false))
        else
          some (.inl (wr (s1 + 1)))
      else
        some (.inr (.inl ()))
  at_ := fun s gh => match s, gh with
    | s1, () => ⟨[(1, (V.fn g caps)), (4, (V.v (.bool (false)))), (7, (V.sl (recs (eI .i64) (a0)) (a0).length)), (8, (V.v (.int .i64 (((a0).length : Int))))), (9, (V.v (.int .i64 (s1))))], [], 0⟩
noncomputable def F_numbers_Every_int : ((List Int) × ((Int → Option Bool)) × FuncId × (List V)) → Option (Bool) := fun x => match x with
  | (a0, a1, g, caps) =>
    (loopC (L_numbers_Every_int_1 a1 a0 g caps).step 0).bind fun e => match e with
    | (.inl ()) =>
      some true
    | (.inr r6) =>
      some r6

noncomputable def F_numbers_Within_1 : (Int × Int × Int) → Option (Bool) := fun x => match x with
  | (a0, c0, c1) =>
    bif (decide (c0 ≤ a0)) then
      some (decide (a0 ≤ c1))
    else
      some false

noncomputable def F_numbers_Within : (Int × Int × (List Int)) → Option (Bool) := fun x => match x with
  | (a0, a1, a2) =>
    (F_numbers_Every_int (a2, (fun q => F_numbers_Within_1 (q, a0, a1)), 89, [(V.fptr [(V.v (.int .i64 (a0)))]), (V.fptr [(V.v (.int .i64 (a1)))])])).bind fun y1 =>
    some y1

noncomputable def L_numbers_Every_Reach_1 (a1 : (TReach → Option Bool)) (a0 : List TReach) (g : FuncId) (caps : List V) : LoopD (Int) (Unit ⊕ Bool) (Unit) where
  step := fun s => match s with
    | s1 =>
      bif (decide (s1 < ((a0).length : Int))) then
        (idx? (a0) (s1)).bind fun x4 =>
        (a1 (x4)).bind fun y5 =>
        bif (!y5) then
          some (.inr (.inr false))
        else
          some (.inl (wr (s1 + 1)))
      else
        some (.inr (.inl ()))
  at_ := fun s gh => match s, gh with
    | s1, () => ⟨[(1, (V.fn g caps)), (4, (V.v (.bool (false)))), (7, (V.sl (recs eTReach (a0)) (a0).length)), (8, (V.v (.int .i64 (((a0).length : Int))))), (9, (V.v (.int .i64 (s1))))], [], 0⟩
noncomputable def F_numbers_Every_Reach : ((List TReach) × ((TReach → Option Bool)) × FuncId × (List V)) → Option (Bool) := fun x => match x with
  | (a0, a1, g, caps) =>
    (loopC (L_numbers_Every_Reach_1 a1 a0 g caps).step 0).bind fun e => match e with
    | (.inl ()) =>
      some true
    | (.inr r6) =>
      some r6

noncomputable def F_numbers_Valid : (TBounds × Int × Int) → Option (Bool) := fun x => match x with
  | (a0, a1, a2) =>
    bif (decide (a0.Low ≤ a0.High)) then
      (F_numbers_Within (a1, a2, ([a0.Low, a0.High] : List Int))).bind fun y1 =>
      some y1
    else
      some false

noncomputable def F_river_validCurve_1 : (TRateRow × TRateRow) → Option (Bool) := fun x => match x with
  | (a0, a1) =>
    bif (decide (a0.Flow < a1.Flow)) then
      some (decide (a0.Level ≤ a1.Level))
    else
      some false

noncomputable def L_numbers_Every_RateRow_1 (a1 : (TRateRow → Option Bool)) (a0 : List TRateRow) (g : FuncId) (caps : List V) : LoopD (Int) (Unit ⊕ Bool) (Unit) where
  step := fun s => match s with
    | s1 =>
      bif (decide (s1 < ((a0).length : Int))) then
        (idx? (a0) (s1)).bind fun x4 =>
        (a1 (x4)).bind fun y5 =>
        bif (!y5) then
          some (.inr (.inr false))
        else
          some (.inl (wr (s1 + 1)))
      else
        some (.inr (.inl ()))
  at_ := fun s gh => match s, gh with
    | s1, () => ⟨[(1, (V.fn g caps)), (4, (V.v (.bool (false)))), (7, (V.sl (recs eTRateRow (a0)) (a0).length)), (8, (V.v (.int .i64 (((a0).length : Int))))), (9, (V.v (.int .i64 (s1))))], [], 0⟩
noncomputable def F_numbers_Every_RateRow : ((List TRateRow) × ((TRateRow → Option Bool)) × FuncId × (List V)) → Option (Bool) := fun x => match x with
  | (a0, a1, g, caps) =>
    (loopC (L_numbers_Every_RateRow_1 a1 a0 g caps).step 0).bind fun e => match e with
    | (.inl ()) =>
      some true
    | (.inr r6) =>
      some r6

noncomputable def F_river_validCurve_2 : (TRateRow) → Option (Bool) := fun x => match x with
  | (a0) =>
    (F_numbers_Within (0, 10000000000, ([a0.Flow] : List Int))).bind fun y1 =>
    bif y1 then
      (F_numbers_Within (0, 10000, ([a0.Level] : List Int))).bind fun y2 =>
      some y2
    else
      some false

noncomputable def L_river_validCurve_1 (a0 : List TRateRow) : LoopD (Int) (Unit ⊕ Bool) (Unit) where
  step := fun s => match s with
    | s2 =>
      bif (decide (s2 < ((a0).length : Int))) then
        (idx? (a0) ((wr (s2 - 1)))).bind fun x6 =>
        (idx? (a0) (s2)).bind fun x7 =>
        (F_river_validCurve_1 (x6, x7)).bind fun y8 =>
        bif (!y8) then
          some (.inr (.inr false))
        else
          some (.inl (wr (s2 + 1)))
      else
        some (.inr (.inl ()))
  at_ := fun s gh => match s, gh with
    | s2, () => ⟨[(0, (V.sl (recs eTRateRow (a0)) (a0).length)), (2, (V.v (.bool (false)))), (3, (V.fn 101 [])), (4, (V.v (.int .i64 (s2))))], [], 0⟩
noncomputable def F_river_validCurve : ((List TRateRow)) → Option (Bool) := fun x => match x with
  | (a0) =>
    (F_numbers_Within (2, 30, ([((a0).length : Int)] : List Int))).bind fun y1 =>
    bif (!y1) then
      some false
    else
      (loopC (L_river_validCurve_1 a0).step 1).bind fun e => match e with
      | (.inl ()) =>
        (F_numbers_Every_RateRow (a0, (fun q => F_river_validCurve_2 (q)), 103, [])).bind fun y9 =>
        some y9
      | (.inr r10) =>
        some r10

noncomputable def F_river_validReach : (TReach) → Option (Bool) := fun x => match x with
  | (a0) =>
    (F_numbers_Within (1, 5000, ([a0.Length] : List Int))).bind fun y1 =>
    bif y1 then
      (F_numbers_Within (0, 200, ([a0.Delay] : List Int))).bind fun y2 =>
      bif y2 then
        (F_numbers_Within (0, 10000, ([a0.Weir, a0.Flood] : List Int))).bind fun y3 =>
        bif y3 then
          (F_numbers_Valid (a0.Base, 0, 10000000000)).bind fun y4 =>
          bif y4 then
            (F_numbers_Valid (a0.Bottom, 0, 10000)).bind fun y5 =>
            bif y5 then
              (F_river_validCurve (a0.Curve)).bind fun y6 =>
              some y6
            else
              some false
          else
            some false
        else
          some false
      else
        some false
    else
      some false

noncomputable def L_numbers_Every_Shoal_1 (a1 : (TShoal → Option Bool)) (a0 : List TShoal) (g : FuncId) (caps : List V) : LoopD (Int) (Unit ⊕ Bool) (Unit) where
  step := fun s => match s with
    | s1 =>
      bif (decide (s1 < ((a0).length : Int))) then
        (idx? (a0) (s1)).bind fun x4 =>
        (a1 (x4)).bind fun y5 =>
        bif (!y5) then
          some (.inr (.inr false))
        else
          some (.inl (wr (s1 + 1)))
      else
        some (.inr (.inl ()))
  at_ := fun s gh => match s, gh with
    | s1, () => ⟨[(1, (V.fn g caps)), (4, (V.v (.bool (false)))), (7, (V.sl (recs eTShoal (a0)) (a0).length)), (8, (V.v (.int .i64 (((a0).length : Int))))), (9, (V.v (.int .i64 (s1))))], [], 0⟩
noncomputable def F_numbers_Every_Shoal : ((List TShoal) × ((TShoal → Option Bool)) × FuncId × (List V)) → Option (Bool) := fun x => match x with
  | (a0, a1, g, caps) =>
    (loopC (L_numbers_Every_Shoal_1 a1 a0 g caps).step 0).bind fun e => match e with
    | (.inl ()) =>
      some true
    | (.inr r6) =>
      some r6

noncomputable def L_river_find_1 (a1 : Int) (a0 : TRiver) : LoopD (Int × Int) (Unit ⊕ (Triver_site × Bool)) (Unit) where
  step := fun s => match s with
    | (s1, s2) =>
      bif (decide (s2 < ((a0.Reaches).length : Int))) then
        (idx? (a0.Reaches) (s2)).bind fun x4 =>
        bif (decide (0 ≤ a1)) then
          bif (decide (a1 < (wr (s1 + x4.Length)))) then
            some (.inr (.inr ((⟨x4, s2, a1, a0.Shoals⟩ : Triver_site), true)))
          else
            some (.inl ((wr (s1 + x4.Length)), (wr (s2 + 1))))
        else
          some (.inl ((wr (s1 + x4.Length)), (wr (s2 + 1))))
      else
        some (.inr (.inl ()))
  at_ := fun s gh => match s, gh with
    | (s1, s2), () => ⟨[(1, (V.v (.int .i64 (a1)))), (2, (V.box 0 0)), (4, (V.box 1 0)), (5, (V.v (.bool (false)))), (6, (V.v (.int .i64 (s1)))), (10, (V.sl (recs eTReach (a0.Reaches)) (a0.Reaches).length)), (11, (V.v (.int .i64 (((a0.Reaches).length : Int))))), (12, (V.v (.int .i64 (s2))))], [(0, Bx.var [(V.sl (recs eTReach (a0.Reaches)) (a0.Reaches).length), (V.sl (recs eTShoal (a0.Shoals)) (a0.Shoals).length)] false), (1, Bx.var [(V.v (.int .i64 (0))), (V.v (.int .i64 (0))), (V.v (.int .i64 (0))), (V.v (.int .i64 (0))), (V.v (.slice none 0 0)), (V.v (.int .i64 (0))), (V.v (.int .i64 (0))), (V.v (.int .i64 (0))), (V.v (.int .i64 (0))), (V.v (.int .i64 (0))), (V.v (.int .i64 (0))), (V.v (.slice none 0 0))] false)], 2⟩
noncomputable def F_river_find : (TRiver × Int) → Option (Triver_site × Bool) := fun x => match x with
  | (a0, a1) =>
    (loopC (L_river_find_1 a1 a0).step (0, 0)).bind fun e => match e with
    | (.inl ()) =>
      some ((⟨(⟨0, 0, (⟨0, 0⟩ : TBounds), ([] : List TRateRow), 0, (⟨0, 0⟩ : TBounds), 0⟩ : TReach), 0, 0, ([] : List TShoal)⟩ : Triver_site), false)
    | (.inr r5) =>
      some r5

noncomputable def F_river_validShoal : (TRiver × TShoal) → Option (Bool) := fun x => match x with
  | (a0, a1) =>
    (F_river_find (a0, a1.Place)).bind fun y1 =>
    bif y1.2 then
      (F_numbers_Within ((-400), 400, ([a1.Sounded] : List Int))).bind fun y2 =>
      bif y2 then
        (F_numbers_Valid (a1.Bed, 0, 10000)).bind fun y3 =>
        bif y3 then
          (F_numbers_Valid (a1.Grow, (-500), 500)).bind fun y4 =>
          some y4
        else
          some false
      else
        some false
    else
      some false

noncomputable def F_river_Check_1 : (TShoal × TRiver) → Option (Bool) := fun x => match x with
  | (a0, c0) =>
    (F_river_validShoal (c0, a0)).bind fun y1 =>
    some y1

noncomputable def F_river_Check : (TRiver) → Option (Int) := fun x => match x with
  | (a0) =>
    (F_numbers_Within (1, 20, ([((a0.Reaches).length : Int)] : List Int))).bind fun y1 =>
    bif (!y1) then
      some 2
    else
      (F_numbers_Every_Reach (a0.Reaches, (fun q => F_river_validReach (q)), 59, [])).bind fun y2 =>
      bif (!y2) then
        some 2
      else
        bif (decide (((a0.Shoals).length : Int) > 40)) then
          some 2
        else
          (F_numbers_Every_Shoal (a0.Shoals, (fun q => F_river_Check_1 (q, a0)), 61, [(V.fptr [(V.sl (recs eTReach (a0.Reaches)) (a0.Reaches).length), (V.sl (recs eTShoal (a0.Shoals)) (a0.Shoals).length)])])).bind fun y3 =>
          bif (!y3) then
            some 2
          else
            some 0

noncomputable def F_thalwegref01_In : (Int × Int × Int) → Option (Bool) := fun x => match x with
  | (a0, a1, a2) =>
    bif (decide (a0 ≥ a1)) then
      some (decide (a0 ≤ a2))
    else
      some false

noncomputable def F_thalwegref01_Valid : (TBounds × Int × Int) → Option (Bool) := fun x => match x with
  | (a0, a1, a2) =>
    (F_thalwegref01_In (a0.Low, a1, a2)).bind fun y1 =>
    bif y1 then
      (F_thalwegref01_In (a0.High, a0.Low, a2)).bind fun y2 =>
      some y2
    else
      some false

noncomputable def L_thalwegref01_Reach_1 (a0 : TReach) : LoopD (Int) (Unit ⊕ Bool) (Unit) where
  step := fun s => match s with
    | s8 =>
      bif (decide (s8 < ((a0.Curve).length : Int))) then
        (idx? (a0.Curve) (s8)).bind fun x17 =>
        (F_thalwegref01_In (x17.Flow, 0, 10000000000)).bind fun y18 =>
        bif (!y18) then
          some (.inr (.inr false))
        else
          (idx? (a0.Curve) (s8)).bind fun x19 =>
          (F_thalwegref01_In (x19.Level, 0, 10000)).bind fun y20 =>
          bif (!y20) then
            some (.inr (.inr false))
          else
            bif (decide (s8 > 0)) then
              (idx? (a0.Curve) (s8)).bind fun x21 =>
              (idx? (a0.Curve) ((wr (s8 - 1)))).bind fun x22 =>
              bif (decide (x21.Flow ≤ x22.Flow)) then
                some (.inr (.inr false))
              else
                (idx? (a0.Curve) (s8)).bind fun x23 =>
                (idx? (a0.Curve) ((wr (s8 - 1)))).bind fun x24 =>
                bif (decide (x23.Level < x24.Level)) then
                  some (.inr (.inr false))
                else
                  some (.inl (wr (s8 + 1)))
            else
              some (.inl (wr (s8 + 1)))
      else
        some (.inr (.inl ()))
  at_ := fun s gh => match s, gh with
    | s8, () => ⟨[(1, (V.box 0 0)), (2, (V.v (.bool (false)))), (3, (V.v (.int .i64 (s8))))], [(0, Bx.var [(V.v (.int .i64 (a0.Length))), (V.v (.int .i64 (a0.Delay))), (V.v (.int .i64 (a0.Base.Low))), (V.v (.int .i64 (a0.Base.High))), (V.sl (recs eTRateRow (a0.Curve)) (a0.Curve).length), (V.v (.int .i64 (a0.Weir))), (V.v (.int .i64 (a0.Bottom.Low))), (V.v (.int .i64 (a0.Bottom.High))), (V.v (.int .i64 (a0.Flood)))] false)], 1⟩
noncomputable def F_thalwegref01_Reach : (TReach) → Option (Bool) := fun x => match x with
  | (a0) =>
    (F_thalwegref01_In (a0.Length, 1, 5000)).bind fun y1 =>
    bif (!y1) then
      some false
    else
      (F_thalwegref01_In (a0.Delay, 0, 200)).bind fun y2 =>
      bif (!y2) then
        some false
      else
        (F_thalwegref01_Valid (a0.Base, 0, 10000000000)).bind fun y3 =>
        bif (!y3) then
          some false
        else
          (F_thalwegref01_In (((a0.Curve).length : Int), 2, 30)).bind fun y4 =>
          bif (!y4) then
            some false
          else
            (F_thalwegref01_In (a0.Weir, 0, 10000)).bind fun y5 =>
            bif (!y5) then
              some false
            else
              (F_thalwegref01_Valid (a0.Bottom, 0, 10000)).bind fun y6 =>
              bif (!y6) then
                some false
              else
                (F_thalwegref01_In (a0.Flood, 0, 10000)).bind fun y7 =>
                bif (!y7) then
                  some false
                else
                  (loopC (L_thalwegref01_Reach_1 a0).step 0).bind fun e => match e with
                  | (.inl ()) =>
                    some true
                  | (.inr r25) =>
                    some r25

noncomputable def L_thalwegref01_Places_1 (a0 : TRiver) : LoopD (Int × Int) (Int) (Unit) where
  step := fun s => match s with
    | (s1, s2) =>
      bif (decide (s2 < ((a0.Reaches).length : Int))) then
        (idx? (a0.Reaches) (s2)).bind fun x4 =>
        some (.inl ((wr (s1 + x4.Length)), (wr (s2 + 1))))
      else
        some (.inr s1)
  at_ := fun s gh => match s, gh with
    | (s1, s2), () => ⟨[(1, (V.box 0 0)), (2, (V.v (.int .i64 (0)))), (3, (V.v (.int .i64 (s1)))), (4, (V.v (.int .i64 (s2))))], [(0, Bx.var [(V.sl (recs eTReach (a0.Reaches)) (a0.Reaches).length), (V.sl (recs eTShoal (a0.Shoals)) (a0.Shoals).length)] false)], 1⟩
noncomputable def F_thalwegref01_Places : (TRiver) → Option (Int) := fun x => match x with
  | (a0) =>
    (loopC (L_thalwegref01_Places_1 a0).step (0, 0)).bind fun e => match e with
    | s5 =>
      some s5

noncomputable def L_thalwegref01_River_1 (a0 : TRiver) : LoopD (Int) (Unit ⊕ Bool) (Unit) where
  step := fun s => match s with
    | s2 =>
      bif (decide (s2 < ((a0.Reaches).length : Int))) then
        (idx? (a0.Reaches) (s2)).bind fun x5 =>
        (F_thalwegref01_Reach (x5)).bind fun y6 =>
        bif (!y6) then
          some (.inr (.inr false))
        else
          some (.inl (wr (s2 + 1)))
      else
        some (.inr (.inl ()))
  at_ := fun s gh => match s, gh with
    | s2, () => ⟨[(1, (V.box 0 0)), (2, (V.v (.bool (false)))), (3, (V.v (.int .i64 (s2))))], [(0, Bx.var [(V.sl (recs eTReach (a0.Reaches)) (a0.Reaches).length), (V.sl (recs eTShoal (a0.Shoals)) (a0.Shoals).length)] false)], 1⟩
noncomputable def L_thalwegref01_River_2 (a0 : TRiver) : LoopD (Int) (Unit ⊕ Bool) (Unit) where
  step := fun s => match s with
    | s7 =>
      bif (decide (s7 < ((a0.Shoals).length : Int))) then
        (idx? (a0.Shoals) (s7)).bind fun x14 =>
        (F_thalwegref01_Places (a0)).bind fun y15 =>
        (F_thalwegref01_In (x14.Place, 0, (wr (y15 - 1)))).bind fun y16 =>
        bif (!y16) then
          some (.inr (.inr false))
        else
          (F_thalwegref01_Valid (x14.Bed, 0, 10000)).bind fun y17 =>
          bif (!y17) then
            some (.inr (.inr false))
          else
            (F_thalwegref01_In (x14.Sounded, (-400), 400)).bind fun y18 =>
            bif (!y18) then
              some (.inr (.inr false))
            else
              (F_thalwegref01_Valid (x14.Grow, (-500), 500)).bind fun y19 =>
              bif (!y19) then
                some (.inr (.inr false))
              else
                some (.inl (wr (s7 + 1)))
      else
        some (.inr (.inl ()))
  at_ := fun s gh => match s, gh with
    | s7, () => ⟨[(1, (V.box 0 0)), (2, (V.v (.bool (false)))), (4, (V.v (.int .i64 (s7))))], [(0, Bx.var [(V.sl (recs eTReach (a0.Reaches)) (a0.Reaches).length), (V.sl (recs eTShoal (a0.Shoals)) (a0.Shoals).length)] false)], 1⟩
noncomputable def F_thalwegref01_River : (TRiver) → Option (Bool) := fun x => match x with
  | (a0) =>
    (F_thalwegref01_In (((a0.Reaches).length : Int), 1, 20)).bind fun y1 =>
    bif (!y1) then
      some false
    else
      bif (decide (((a0.Shoals).length : Int) > 40)) then
        some false
      else
        (loopC (L_thalwegref01_River_1 a0).step 0).bind fun e => match e with
        | (.inl ()) =>
          (loopC (L_thalwegref01_River_2 a0).step 0).bind fun e => match e with
          | (.inl ()) =>
            some true
          | (.inr r20) =>
            some r20
        | (.inr r21) =>
          some r21

noncomputable def L_thalweglaw01_unchanged_1 (s1 : Int) (a0 : TRiver) (a1 : TRiver) (x11 : TReach) (x10 : TReach) : LoopD (Int) (Unit ⊕ Bool) (Unit) where
  step := fun s => match s with
    | s12 =>
      bif (decide (s12 < ((x10.Curve).length : Int))) then
        (idx? (x10.Curve) (s12)).bind fun x15 =>
        (idx? (x11.Curve) (s12)).bind fun x16 =>
        bif (!(x15.Flow == x16.Flow && (x15.Level == x16.Level && true))) then
          some (.inr (.inr false))
        else
          some (.inl (wr (s12 + 1)))
      else
        some (.inr (.inl ()))
  at_ := fun s gh => match s, gh with
    | s12, () => ⟨[(2, (V.box 0 0)), (3, (V.box 1 0)), (4, (V.v (.bool (false)))), (5, (V.v (.int .i64 (s1)))), (6, (V.box 17 0)), (7, (V.box 18 0)), (8, (V.v (.int .i64 (s12))))], [(0, Bx.var [(V.sl (recs eTReach (a0.Reaches)) (a0.Reaches).length), (V.sl (recs eTShoal (a0.Shoals)) (a0.Shoals).length)] false), (1, Bx.var [(V.sl (recs eTReach (a1.Reaches)) (a1.Reaches).length), (V.sl (recs eTShoal (a1.Shoals)) (a1.Shoals).length)] false), (17, Bx.var [(V.v (.int .i64 (x10.Length))), (V.v (.int .i64 (x10.Delay))), (V.v (.int .i64 (x10.Base.Low))), (V.v (.int .i64 (x10.Base.High))), (V.sl (recs eTRateRow (x10.Curve)) (x10.Curve).length), (V.v (.int .i64 (x10.Weir))), (V.v (.int .i64 (x10.Bottom.Low))), (V.v (.int .i64 (x10.Bottom.High))), (V.v (.int .i64 (x10.Flood)))] false), (18, Bx.var [(V.v (.int .i64 (x11.Length))), (V.v (.int .i64 (x11.Delay))), (V.v (.int .i64 (x11.Base.Low))), (V.v (.int .i64 (x11.Base.High))), (V.sl (recs eTRateRow (x11.Curve)) (x11.Curve).length), (V.v (.int .i64 (x11.Weir))), (V.v (.int .i64 (x11.Bottom.Low))), (V.v (.int .i64 (x11.Bottom.High))), (V.v (.int .i64 (x11.Flood)))] false)], 19⟩
noncomputable def L_thalweglaw01_unchanged_2 (a0 : TRiver) (a1 : TRiver) : LoopD (Int) (Unit ⊕ Bool) (Unit) where
  step := fun s => match s with
    | s1 =>
      bif (decide (s1 < ((a0.Reaches).length : Int))) then
        (idx? (a0.Reaches) (s1)).bind fun x10 =>
        (idx? (a1.Reaches) (s1)).bind fun x11 =>
        bif (x10.Length != x11.Length) then
          some (.inr (.inr false))
        else
          bif (x10.Delay != x11.Delay) then
            some (.inr (.inr false))
          else
            bif (!(x10.Base.Low == x11.Base.Low && (x10.Base.High == x11.Base.High && true))) then
              some (.inr (.inr false))
            else
              bif (x10.Weir != x11.Weir) then
                some (.inr (.inr false))
              else
                bif (!(x10.Bottom.Low == x11.Bottom.Low && (x10.Bottom.High == x11.Bottom.High && true))) then
                  some (.inr (.inr false))
                else
                  bif (x10.Flood != x11.Flood) then
                    some (.inr (.inr false))
                  else
                    bif (((x10.Curve).length : Int) != ((x11.Curve).length : Int)) then
                      some (.inr (.inr false))
                    else
                      (loopC (L_thalweglaw01_unchanged_1 s1 a0 a1 x11 x10).step 0).bind fun e => match e with
                      | (.inl ()) =>
                        some (.inl (wr (s1 + 1)))
                      | (.inr r17) =>
                        some (.inr (.inr r17))
      else
        some (.inr (.inl ()))
  at_ := fun s gh => match s, gh with
    | s1, () => ⟨[(2, (V.box 0 0)), (3, (V.box 1 0)), (4, (V.v (.bool (false)))), (5, (V.v (.int .i64 (s1))))], [(0, Bx.var [(V.sl (recs eTReach (a0.Reaches)) (a0.Reaches).length), (V.sl (recs eTShoal (a0.Shoals)) (a0.Shoals).length)] false), (1, Bx.var [(V.sl (recs eTReach (a1.Reaches)) (a1.Reaches).length), (V.sl (recs eTShoal (a1.Shoals)) (a1.Shoals).length)] false)], 2⟩
noncomputable def L_thalweglaw01_unchanged_3 (a0 : TRiver) (a1 : TRiver) : LoopD (Int) (Unit ⊕ Bool) (Unit) where
  step := fun s => match s with
    | s18 =>
      bif (decide (s18 < ((a0.Shoals).length : Int))) then
        (idx? (a0.Shoals) (s18)).bind fun x21 =>
        (idx? (a1.Shoals) (s18)).bind fun x22 =>
        bif (!(x21.Place == x22.Place && (x21.Bed.Low == x22.Bed.Low && (x21.Bed.High == x22.Bed.High && (x21.Sounded == x22.Sounded && (x21.Grow.Low == x22.Grow.Low && (x21.Grow.High == x22.Grow.High && true))))))) then
          some (.inr (.inr false))
        else
          some (.inl (wr (s18 + 1)))
      else
        some (.inr (.inl ()))
  at_ := fun s gh => match s, gh with
    | s18, () => ⟨[(2, (V.box 0 0)), (3, (V.box 1 0)), (4, (V.v (.bool (false)))), (9, (V.v (.int .i64 (s18))))], [(0, Bx.var [(V.sl (recs eTReach (a0.Reaches)) (a0.Reaches).length), (V.sl (recs eTShoal (a0.Shoals)) (a0.Shoals).length)] false), (1, Bx.var [(V.sl (recs eTReach (a1.Reaches)) (a1.Reaches).length), (V.sl (recs eTShoal (a1.Shoals)) (a1.Shoals).length)] false)], 2⟩
noncomputable def F_thalweglaw01_unchanged : (TRiver × TRiver) → Option (Bool) := fun x => match x with
  | (a0, a1) =>
    bif (((a0.Reaches).length : Int) != ((a1.Reaches).length : Int)) then
      some false
    else
      bif (((a0.Shoals).length : Int) != ((a1.Shoals).length : Int)) then
        some false
      else
        (loopC (L_thalweglaw01_unchanged_2 a0 a1).step 0).bind fun e => match e with
        | (.inl ()) =>
          (loopC (L_thalweglaw01_unchanged_3 a0 a1).step 0).bind fun e => match e with
          | (.inl ()) =>
            some true
          | (.inr r23) =>
            some r23
        | (.inr r24) =>
          some r24

noncomputable def F_numbers_Down : (Int × Int) → Option (Int) := fun x => match x with
  | (a0, a1) =>
    (nz? (a1)).bind fun _ =>
    bif (decide ((Int.tmod a0 a1) < 0)) then
      (nz? (a1)).bind fun _ =>
      some (wr ((wr (Int.tdiv a0 a1)) - 1))
    else
      (nz? (a1)).bind fun _ =>
      some (wr (Int.tdiv a0 a1))

noncomputable def F_numbers_Up : (Int × Int) → Option (Int) := fun x => match x with
  | (a0, a1) =>
    (F_numbers_Down ((wr (0 - a0)), a1)).bind fun y1 =>
    some (wr (0 - y1))

noncomputable def L_slices_IndexFunc_L_RateRow_RateRow_1 (a0 : List TRateRow) (a1 : (TRateRow → Option Bool)) (g : FuncId) (caps : List V) : LoopD (Int) (Unit ⊕ Int) (Unit) where
  step := fun s => match s with
    | s1 =>
      bif (decide (s1 < ((a0).length : Int))) then
        (idx? (a0) (s1)).bind fun x4 =>
        (a1 (x4)).bind fun y5 =>
        bif y5 then
          some (.inr (.inr s1))
        else
          some (.inl (wr (s1 + 1)))
      else
        some (.inr (.inl ()))
  at_ := fun s gh => match s, gh with
    | s1, () => ⟨[(0, (V.sl (recs eTRateRow (a0)) (a0).length)), (1, (V.fn g caps)), (4, (V.v (.int .i64 (0)))), (7, (V.v (.int .i64 (((a0).length : Int))))), (8, (V.v (.int .i64 (s1))))], [], 0⟩
noncomputable def F_slices_IndexFunc_L_RateRow_RateRow : ((List TRateRow) × ((TRateRow → Option Bool)) × FuncId × (List V)) → Option (Int) := fun x => match x with
  | (a0, a1, g, caps) =>
    (loopC (L_slices_IndexFunc_L_RateRow_RateRow_1 a0 a1 g caps).step 0).bind fun e => match e with
    | (.inl ()) =>
      some (-1)
    | (.inr r6) =>
      some r6

noncomputable def F_river_curveAt_1 : (TRateRow × Int) → Option (Bool) := fun x => match x with
  | (a0, c0) =>
    some (decide (c0 ≤ a0.Flow))

noncomputable def F_river_curveAt : ((List TRateRow) × Int × ((Int × Int → Option Int)) × FuncId × (List V)) → Option (Int) := fun x => match x with
  | (a0, a1, a2, g, caps) =>
    (F_slices_IndexFunc_L_RateRow_RateRow (a0, (fun q => F_river_curveAt_1 (q, a1)), 105, [(V.fptr [(V.v (.int .i64 (a1)))])])).bind fun y1 =>
    bif (decide (y1 < 0)) then
      (idx? (a0) ((wr (((a0).length : Int) - 1)))).bind fun x2 =>
      some x2.Level
    else
      bif (y1 == 0) then
        (idx? (a0) (0)).bind fun x3 =>
        some x3.Level
      else
        (idx? (a0) ((wr (y1 - 1)))).bind fun x4 =>
        (idx? (a0) (y1)).bind fun x5 =>
        (a2 ((wr ((wr (x5.Level - x4.Level)) * (wr (a1 - x4.Flow)))), (wr (x5.Flow - x4.Flow)))).bind fun y6 =>
        some (wr (x4.Level + y6))

noncomputable def F_river_levelAt : (TReach × TBounds) → Option (TBounds) := fun x => match x with
  | (a0, a1) =>
    (F_river_curveAt (a0.Curve, a1.Low, (fun q => F_numbers_Down (q.1, q.2)), 69, [])).bind fun y1 =>
    (F_river_curveAt (a0.Curve, a1.High, (fun q => F_numbers_Up (q.1, q.2)), 70, [])).bind fun y2 =>
    some (⟨(minmax true y1 a0.Weir), (minmax true y2 a0.Weir)⟩ : TBounds)

noncomputable def F_river_Level : (TReach × TBounds) → Option (TBounds × Int) := fun x => match x with
  | (a0, a1) =>
    (F_river_validReach (a0)).bind fun y1 =>
    bif (!y1) then
      some ((⟨0, 0⟩ : TBounds), 2)
    else
      (F_numbers_Valid (a1, 0, 210000000000)).bind fun y2 =>
      bif (!y2) then
        some ((⟨0, 0⟩ : TBounds), 3)
      else
        (F_river_levelAt (a0, a1)).bind fun y3 =>
        some (y3, 0)

noncomputable def F_thalwegref01_Floor : (Int × Int) → Option (Int) := fun x => match x with
  | (a0, a1) =>
    (nz? (a1)).bind fun _ =>
    bif (decide ((wr ((wr (Int.tdiv a0 a1)) * a1)) > a0)) then
      some (wr ((wr (Int.tdiv a0 a1)) - 1))
    else
      some (wr (Int.tdiv a0 a1))

noncomputable def F_thalwegref01_Ceil : (Int × Int) → Option (Int) := fun x => match x with
  | (a0, a1) =>
    (nz? (a1)).bind fun _ =>
    bif (decide ((wr ((wr (Int.tdiv a0 a1)) * a1)) < a0)) then
      some (wr ((wr (Int.tdiv a0 a1)) + 1))
    else
      some (wr (Int.tdiv a0 a1))

noncomputable def L_thalwegref01_Curve_1 (a1 : Int) (a2 : Bool) (a0 : TReach) : LoopD (Int) (Int) (Unit) where
  step := fun s => match s with
    | s4 =>
      (idx? (a0.Curve) ((wr (s4 + 1)))).bind fun x6 =>
      bif (decide (x6.Flow < a1)) then
        some (.inl (wr (s4 + 1)))
      else
        some (.inr s4)
  at_ := fun s gh => match s, gh with
    | s4, () => ⟨[(1, (V.v (.int .i64 (a1)))), (2, (V.v (.bool (a2)))), (3, (V.box 0 0)), (6, (V.v (.int .i64 (0)))), (8, (V.v (.int .i64 (s4))))], [(0, Bx.var [(V.v (.int .i64 (a0.Length))), (V.v (.int .i64 (a0.Delay))), (V.v (.int .i64 (a0.Base.Low))), (V.v (.int .i64 (a0.Base.High))), (V.sl (recs eTRateRow (a0.Curve)) (a0.Curve).length), (V.v (.int .i64 (a0.Weir))), (V.v (.int .i64 (a0.Bottom.Low))), (V.v (.int .i64 (a0.Bottom.High))), (V.v (.int .i64 (a0.Flood)))] false)], 1⟩
noncomputable def F_thalwegref01_Curve : (TReach × Int × Bool) → Option (Int) := fun x => match x with
  | (a0, a1, a2) =>
    (idx? (a0.Curve) ((wr (((a0.Curve).length : Int) - 1)))).bind fun x1 =>
    (idx? (a0.Curve) (0)).bind fun x2 =>
    bif (decide (a1 ≤ x2.Flow)) then
      (idx? (a0.Curve) (0)).bind fun x3 =>
      some x3.Level
    else
      bif (decide (a1 ≥ x1.Flow)) then
        some x1.Level
      else
        (loopC (L_thalwegref01_Curve_1 a1 a2 a0).step 0).bind fun e => match e with
        | s7 =>
          (idx? (a0.Curve) (s7)).bind fun x8 =>
          (idx? (a0.Curve) ((wr (s7 + 1)))).bind fun x9 =>
          bif a2 then
            (F_thalwegref01_Ceil ((wr ((wr (a1 - x8.Flow)) * (wr (x9.Level - x8.Level)))), (wr (x9.Flow - x8.Flow)))).bind fun y10 =>
            some (wr (x8.Level + y10))
          else
            (F_thalwegref01_Floor ((wr ((wr (a1 - x8.Flow)) * (wr (x9.Level - x8.Level)))), (wr (x9.Flow - x8.Flow)))).bind fun y11 =>
            some (wr (x8.Level + y11))

noncomputable def F_thalwegref01_Level : (TReach × TBounds) → Option (TBounds) := fun x => match x with
  | (a0, a1) =>
    (F_thalwegref01_Curve (a0, a1.Low, false)).bind fun y1 =>
    (F_thalwegref01_Curve (a0, a1.High, true)).bind fun y2 =>
    some (⟨(minmax true a0.Weir y1), (minmax true a0.Weir y2)⟩ : TBounds)

noncomputable def F_thalweglaw01_RiverChecks : (TRiver × TReach × TBounds) → Option (Bool) := fun x => match x with
  | (a0, a1, a2) =>
    (F_thalweglaw01_large ((⟨a0, ([] : List (List TBounds))⟩ : Tthalweglaw01_Forecast))).bind fun y1 =>
    bif y1 then
      (F_thalweglaw01_known ()).bind fun y2 =>
      some y2
    else
      bif (decide (((a1.Curve).length : Int) > 40)) then
        (F_thalweglaw01_known ()).bind fun y3 =>
        some y3
      else
        (F_thalweglaw01_copied (a0)).bind fun y4 =>
        (F_river_Check (y4)).bind fun y5 =>
        bif (y5 != 0) then
          bif (y5 != 2) then
            some false
          else
            (F_thalwegref01_River (a0)).bind fun y6 =>
            bif (!((y5 == 0) == y6)) then
              some false
            else
              (F_thalweglaw01_unchanged (y4, a0)).bind fun y7 =>
              bif (!y7) then
                some false
              else
                (app? (([] : List TRateRow)) (a1.Curve) 16).bind fun l8 =>
                (F_river_Level ((⟨a1.Length, a1.Delay, a1.Base, l8, a1.Weir, a1.Bottom, a1.Flood⟩ : TReach), a2)).bind fun y9 =>
                (F_thalwegref01_Reach (a1)).bind fun y10 =>
                bif (!y10) then
                  bif (y9.2 == 2) then
                    bif (y9.1.Low == 0 && (y9.1.High == 0 && true)) then
                      (F_thalweglaw01_known ()).bind fun y11 =>
                      some y11
                    else
                      some false
                  else
                    some false
                else
                  (F_thalwegref01_Valid (a2, 0, 210000000000)).bind fun y12 =>
                  bif (!y12) then
                    bif (y9.2 == 3) then
                      bif (y9.1.Low == 0 && (y9.1.High == 0 && true)) then
                        (F_thalweglaw01_known ()).bind fun y13 =>
                        some y13
                      else
                        some false
                    else
                      some false
                  else
                    bif (y9.2 == 0) then
                      (F_thalwegref01_Level (a1, a2)).bind fun y14 =>
                      bif (y9.1.Low == y14.Low && (y9.1.High == y14.High && true)) then
                        (F_thalweglaw01_known ()).bind fun y15 =>
                        some y15
                      else
                        some false
                    else
                      some false
        else
          (F_thalwegref01_River (a0)).bind fun y16 =>
          bif (!((y5 == 0) == y16)) then
            some false
          else
            (F_thalweglaw01_unchanged (y4, a0)).bind fun y17 =>
            bif (!y17) then
              some false
            else
              (app? (([] : List TRateRow)) (a1.Curve) 16).bind fun l18 =>
              (F_river_Level ((⟨a1.Length, a1.Delay, a1.Base, l18, a1.Weir, a1.Bottom, a1.Flood⟩ : TReach), a2)).bind fun y19 =>
              (F_thalwegref01_Reach (a1)).bind fun y20 =>
              bif (!y20) then
                bif (y19.2 == 2) then
                  bif (y19.1.Low == 0 && (y19.1.High == 0 && true)) then
                    (F_thalweglaw01_known ()).bind fun y21 =>
                    some y21
                  else
                    some false
                else
                  some false
              else
                (F_thalwegref01_Valid (a2, 0, 210000000000)).bind fun y22 =>
                bif (!y22) then
                  bif (y19.2 == 3) then
                    bif (y19.1.Low == 0 && (y19.1.High == 0 && true)) then
                      (F_thalweglaw01_known ()).bind fun y23 =>
                      some y23
                    else
                      some false
                  else
                    some false
                else
                  bif (y19.2 == 0) then
                    (F_thalwegref01_Level (a1, a2)).bind fun y24 =>
                    bif (y19.1.Low == y24.Low && (y19.1.High == y24.High && true)) then
                      (F_thalweglaw01_known ()).bind fun y25 =>
                      some y25
                    else
                      some false
                  else
                    some false

noncomputable def L_thalweglaw01_forecast_1 (a0 : List (List TBounds)) : LoopD (Int × (List (List TBounds))) (((List (List TBounds)))) (Unit) where
  step := fun s => match s with
    | (s1, s2) =>
      bif (decide (s1 < ((a0).length : Int))) then
        (idx? (a0) (s1)).bind fun x6 =>
        (app? (([] : List TBounds)) (x6) 16).bind fun l7 =>
        (app? (s2) (([l7] : List (List TBounds))) 24).bind fun l8 =>
        some (.inl ((wr (s1 + 1)), l8))
      else
        some (.inr s2)
  at_ := fun s gh => match s, gh with
    | (s1, s2), () => ⟨[(0, (V.sl (recs (eS eTBounds) (a0)) (a0).length)), (2, (V.v (.slice none 0 0))), (3, (V.osl 1 (s2).length)), (4, (V.v (.int .i64 (s1))))], [(1, Bx.row 50 1 (recs (eS eTBounds) (s2)) 0)], 2⟩
noncomputable def F_thalweglaw01_forecast : ((List (List TBounds))) → Option (List (List TBounds)) := fun x => match x with
  | (a0) =>
    (loopC (L_thalweglaw01_forecast_1 a0).step (0, ([] : List (List TBounds)))).bind fun e => match e with
    | s9 =>
      some s9

noncomputable def L_thalwegref01_Start_1 (a1 : List (List TBounds)) : LoopD (Int) (Unit ⊕ Int) (Unit) where
  step := fun s => match s with
    | s3 =>
      bif (decide (s3 < ((a1).length : Int))) then
        (idx? (a1) (s3)).bind fun x6 =>
        (idx? (a1) (0)).bind fun x7 =>
        bif (((x6).length : Int) != ((x7).length : Int)) then
          some (.inr (.inr 4))
        else
          some (.inl (wr (s3 + 1)))
      else
        some (.inr (.inl ()))
  at_ := fun s gh => match s, gh with
    | s3, () => ⟨[(1, (V.sl (recs (eS eTBounds) (a1)) (a1).length)), (4, (V.v (.int .i64 (0)))), (5, (V.v (.int .i64 (s3))))], [], 0⟩
noncomputable def L_thalwegref01_Start_2 (a1 : List (List TBounds)) (s9 : Int) : LoopD (Int) (Unit ⊕ Int) (Unit) where
  step := fun s => match s with
    | s20 =>
      (idx? (a1) (s9)).bind fun x25 =>
      bif (decide (s20 < ((x25).length : Int))) then
        (idx? (a1) (s9)).bind fun x26 =>
        (idx? (x26) (s20)).bind fun x27 =>
        (F_thalwegref01_Valid (x27, 0, 10000000000)).bind fun y28 =>
        bif (!y28) then
          some (.inr (.inr 2))
        else
          some (.inl (wr (s20 + 1)))
      else
        some (.inr (.inl ()))
  at_ := fun s gh => match s, gh with
    | s20, () => ⟨[(1, (V.sl (recs (eS eTBounds) (a1)) (a1).length)), (4, (V.v (.int .i64 (0)))), (6, (V.v (.int .i64 (s9)))), (7, (V.v (.int .i64 (s20))))], [], 0⟩
noncomputable def L_thalwegref01_Start_3 (a1 : List (List TBounds)) : LoopD (Int) (Unit ⊕ Int) (Unit) where
  step := fun s => match s with
    | s9 =>
      bif (decide (s9 < ((a1).length : Int))) then
        (loopC (L_thalwegref01_Start_2 a1 s9).step 0).bind fun e => match e with
        | (.inl ()) =>
          some (.inl (wr (s9 + 1)))
        | (.inr r29) =>
          some (.inr (.inr r29))
      else
        some (.inr (.inl ()))
  at_ := fun s gh => match s, gh with
    | s9, () => ⟨[(1, (V.sl (recs (eS eTBounds) (a1)) (a1).length)), (4, (V.v (.int .i64 (0)))), (6, (V.v (.int .i64 (s9))))], [], 0⟩
noncomputable def F_thalwegref01_Start : (TRiver × (List (List TBounds))) → Option (Int) := fun x => match x with
  | (a0, a1) =>
    (F_thalwegref01_River (a0)).bind fun y1 =>
    bif (!y1) then
      some 2
    else
      bif (((a1).length : Int) != ((a0.Reaches).length : Int)) then
        some 4
      else
        (idx? (a1) (0)).bind fun x2 =>
        bif (((x2).length : Int) == 0) then
          some 4
        else
          (loopC (L_thalwegref01_Start_1 a1).step 0).bind fun e => match e with
          | (.inl ()) =>
            (idx? (a1) (0)).bind fun x8 =>
            bif (decide (((x8).length : Int) > 400)) then
              some 5
            else
              (loopC (L_thalwegref01_Start_3 a1).step 0).bind fun e => match e with
              | (.inl ()) =>
                some 0
              | (.inr r30) =>
                some r30
          | (.inr r31) =>
            some r31

noncomputable def L_numbers_Sum_1 (a0 : List TBounds) : LoopD (Int × Int × Int) ((Int × Int)) (Unit) where
  step := fun s => match s with
    | (s1, s2, s3) =>
      bif (decide (s1 < ((a0).length : Int))) then
        (idx? (a0) (s1)).bind fun x5 =>
        some (.inl ((wr (s1 + 1)), (wr (s2 + x5.Low)), (wr (s3 + x5.High))))
      else
        some (.inr (s2, s3))
  at_ := fun s gh => match s, gh with
    | (s1, s2, s3), () => ⟨[(2, (V.box 0 0)), (3, (V.box 2 0)), (7, (V.sl (recs eTBounds (a0)) (a0).length)), (8, (V.v (.int .i64 (((a0).length : Int))))), (9, (V.v (.int .i64 (s1))))], [(0, Bx.var [(V.v (.int .i64 (0))), (V.v (.int .i64 (0)))] false), (2, Bx.var [(V.v (.int .i64 (s2))), (V.v (.int .i64 (s3)))] false)], 3⟩
noncomputable def F_numbers_Sum : ((List TBounds)) → Option (TBounds) := fun x => match x with
  | (a0) =>
    (loopC (L_numbers_Sum_1 a0).step (0, 0, 0)).bind fun e => match e with
    | (s6, s7) =>
      some (⟨s6, s7⟩ : TBounds)

noncomputable def L_numbers_Every_L_Bounds_1 (a1 : ((List TBounds) → Option Bool)) (a0 : List (List TBounds)) (g : FuncId) (caps : List V) : LoopD (Int) (Unit ⊕ Bool) (Unit) where
  step := fun s => match s with
    | s1 =>
      bif (decide (s1 < ((a0).length : Int))) then
        (idx? (a0) (s1)).bind fun x4 =>
        (a1 (x4)).bind fun y5 =>
        bif (!y5) then
          some (.inr (.inr false))
        else
          some (.inl (wr (s1 + 1)))
      else
        some (.inr (.inl ()))
  at_ := fun s gh => match s, gh with
    | s1, () => ⟨[(1, (V.fn g caps)), (4, (V.v (.bool (false)))), (7, (V.sl (recs (eS eTBounds) (a0)) (a0).length)), (8, (V.v (.int .i64 (((a0).length : Int))))), (9, (V.v (.int .i64 (s1))))], [], 0⟩
noncomputable def F_numbers_Every_L_Bounds : ((List (List TBounds)) × (((List TBounds) → Option Bool)) × FuncId × (List V)) → Option (Bool) := fun x => match x with
  | (a0, a1, g, caps) =>
    (loopC (L_numbers_Every_L_Bounds_1 a1 a0 g caps).step 0).bind fun e => match e with
    | (.inl ()) =>
      some true
    | (.inr r6) =>
      some r6

noncomputable def F_river_checkForecast_1 : ((List TBounds) × Int) → Option (Bool) := fun x => match x with
  | (a0, c0) =>
    some (((a0).length : Int) == c0)

noncomputable def F_river_checkForecast_2 : (TBounds) → Option (Bool) := fun x => match x with
  | (a0) =>
    (F_numbers_Valid (a0, 0, 10000000000)).bind fun y1 =>
    some y1

noncomputable def L_numbers_Every_Bounds_1 (a1 : (TBounds → Option Bool)) (a0 : List TBounds) (g : FuncId) (caps : List V) : LoopD (Int) (Unit ⊕ Bool) (Unit) where
  step := fun s => match s with
    | s1 =>
      bif (decide (s1 < ((a0).length : Int))) then
        (idx? (a0) (s1)).bind fun x4 =>
        (a1 (x4)).bind fun y5 =>
        bif (!y5) then
          some (.inr (.inr false))
        else
          some (.inl (wr (s1 + 1)))
      else
        some (.inr (.inl ()))
  at_ := fun s gh => match s, gh with
    | s1, () => ⟨[(1, (V.fn g caps)), (4, (V.v (.bool (false)))), (7, (V.sl (recs eTBounds (a0)) (a0).length)), (8, (V.v (.int .i64 (((a0).length : Int))))), (9, (V.v (.int .i64 (s1))))], [], 0⟩
noncomputable def F_numbers_Every_Bounds : ((List TBounds) × ((TBounds → Option Bool)) × FuncId × (List V)) → Option (Bool) := fun x => match x with
  | (a0, a1, g, caps) =>
    (loopC (L_numbers_Every_Bounds_1 a1 a0 g caps).step 0).bind fun e => match e with
    | (.inl ()) =>
      some true
    | (.inr r6) =>
      some r6

noncomputable def F_river_checkForecast_3 : ((List TBounds) × ((TBounds → Option Bool)) × FuncId × (List V)) → Option (Bool) := fun x => match x with
  | (a0, c0, g, caps) =>
    (F_numbers_Every_Bounds (a0, c0, g, caps)).bind fun y1 =>
    some y1

noncomputable def F_river_checkForecast : (TRiver × (List (List TBounds))) → Option (Int) := fun x => match x with
  | (a0, a1) =>
    bif (((a1).length : Int) != ((a0.Reaches).length : Int)) then
      some 4
    else
      (idx? (a1) (0)).bind fun x1 =>
      bif (((x1).length : Int) == 0) then
        some 4
      else
        (F_numbers_Every_L_Bounds (a1, (fun q => F_river_checkForecast_1 (q, ((x1).length : Int))), 107, [(V.fptr [(V.v (.int .i64 (((x1).length : Int))))])])).bind fun y2 =>
        bif (!y2) then
          some 4
        else
          bif (decide (((x1).length : Int) > 400)) then
            some 5
          else
            (F_numbers_Every_L_Bounds (a1, (fun q => F_river_checkForecast_3 (q, (fun q => F_river_checkForecast_2 (q)), 108, [])), 109, [(V.fptr [(V.fn 108 [])])])).bind fun y3 =>
            bif (!y3) then
              some 2
            else
              some 0

noncomputable def F_river_stream_inflow : (Triver_stream × Int × Int) → Option (TBounds) := fun x => match x with
  | (a0, a1, a2) =>
    bif (a1 == 0) then
      some (⟨0, 0⟩ : TBounds)
    else
      (idx? (a0.River.Reaches) ((wr (a1 - 1)))).bind fun x1 =>
      bif (decide (a2 < x1.Delay)) then
        some x1.Base
      else
        (idx? (a0.flows_) ((wr (a1 - 1)))).bind fun x2 =>
        (idx? (x2) ((wr (a2 - x1.Delay)))).bind fun x3 =>
        some x3

noncomputable def L_river_run_1 (a1 : List (List TBounds)) (s3 : Int) (x23 : List TBounds) (a0 : TRiver) (s4 : List (List TBounds)) : LoopD (Int × (List TBounds)) (((List TBounds))) (Nat) where
  step := fun s => match s with
    | (s25, s26) =>
      bif (decide (s25 < ((x23).length : Int))) then
        (idx? (x23) (s25)).bind fun x33 =>
        (F_river_stream_inflow ((⟨a0, s4⟩ : Triver_stream), s3, s25)).bind fun y34 =>
        (F_numbers_Sum (([x33, y34] : List TBounds))).bind fun y35 =>
        (idx? (s26) (s25)).bind fun x36 =>
        (set? (s26) (s25) (y35)).bind fun l38 =>
        some (.inl ((wr (s25 + 1)), l38))
      else
        some (.inr s26)
  at_ := fun s gh => match s, gh with
    | (s25, s26), p17 => ⟨[(4, (V.box 1 0)), (5, (V.v (.int .i64 (0)))), (8, (V.box 16 0)), (9, (V.v (.int .i64 (s3)))), (10, (V.sl (recs eTBounds (x23)) (x23).length)), (11, (V.osl 26 (s26).length)), (28, (V.sl (recs (eS eTBounds) (a1)) (a1).length)), (29, (V.v (.int .i64 (((a1).length : Int))))), (30, (V.v (.int .i64 (s3)))), (39, (V.v (.int .i64 (((x23).length : Int))))), (40, (V.v (.int .i64 (s25))))], [(1, Bx.var [(V.v (.slice none 0 0)), (V.v (.slice none 0 0)), (V.v (.slice none 0 0))] false), (16, Bx.var [(V.sl (recs eTReach (a0.Reaches)) (a0.Reaches).length), (V.sl (recs eTShoal (a0.Shoals)) (a0.Shoals).length), (V.osl 17 (s4).length)] false), (17, Bx.row 50 1 (recs (eS eTBounds) (s4)) p17), (26, Bx.row 27 2 (recs eTBounds (s26)) 0)], 27⟩
noncomputable def L_river_run_2 (a1 : List (List TBounds)) (a0 : TRiver) : LoopD (Int × (List (List TBounds))) (((List (List TBounds)))) (Nat) where
  step := fun s => match s with
    | (s3, s4) =>
      bif (decide (s3 < ((a1).length : Int))) then
        (idx? (a1) (s3)).bind fun x23 =>
        (mk? ((⟨0, 0⟩ : TBounds) : TBounds) (((x23).length : Int)) 16).bind fun l24 =>
        (loopC (L_river_run_1 a1 s3 x23 a0 s4).step (0, l24)).bind fun e => match e with
        | s39 =>
          (app? (s4) (([s39] : List (List TBounds))) 24).bind fun l40 =>
          some (.inl ((wr (s3 + 1)), l40))
      else
        some (.inr s4)
  at_ := fun s gh => match s, gh with
    | (s3, s4), p17 => ⟨[(4, (V.box 1 0)), (5, (V.v (.int .i64 (0)))), (8, (V.box 16 0)), (28, (V.sl (recs (eS eTBounds) (a1)) (a1).length)), (29, (V.v (.int .i64 (((a1).length : Int))))), (30, (V.v (.int .i64 (s3))))], [(1, Bx.var [(V.v (.slice none 0 0)), (V.v (.slice none 0 0)), (V.v (.slice none 0 0))] false), (16, Bx.var [(V.sl (recs eTReach (a0.Reaches)) (a0.Reaches).length), (V.sl (recs eTShoal (a0.Shoals)) (a0.Shoals).length), (V.osl 17 (s4).length)] false), (17, Bx.row 50 1 (recs (eS eTBounds) (s4)) p17)], 18⟩
noncomputable def F_river_run : (TRiver × (List (List TBounds))) → Option (Triver_stream × Int) := fun x => match x with
  | (a0, a1) =>
    (F_river_Check (a0)).bind fun y1 =>
    bif (y1 != 0) then
      some ((⟨(⟨([] : List TReach), ([] : List TShoal)⟩ : TRiver), ([] : List (List TBounds))⟩ : Triver_stream), y1)
    else
      (F_river_checkForecast (a0, a1)).bind fun y2 =>
      bif (y2 != 0) then
        some ((⟨(⟨([] : List TReach), ([] : List TShoal)⟩ : TRiver), ([] : List (List TBounds))⟩ : Triver_stream), y2)
      else
        (loopC (L_river_run_2 a1 a0).step (0, ([] : List (List TBounds)))).bind fun e => match e with
        | s41 =>
          some ((⟨a0, s41⟩ : Triver_stream), 0)

noncomputable def F_river_stream_hours : (Triver_stream) → Option (Int) := fun x => match x with
  | (a0) =>
    (idx? (a0.flows_) (0)).bind fun x1 =>
    some ((x1).length : Int)

noncomputable def F_river_Volume : (TRiver × (List (List TBounds)) × Int × Int × Int) → Option (TBounds × Int) := fun x => match x with
  | (a0, a1, a2, a3, a4) =>
    (F_river_run (a0, a1)).bind fun y1 =>
    bif (y1.2 != 0) then
      some ((⟨0, 0⟩ : TBounds), y1.2)
    else
      (F_numbers_Within (0, (wr (((y1.1.River.Reaches).length : Int) - 1)), ([a2] : List Int))).bind fun y2 =>
      bif (!y2) then
        some ((⟨0, 0⟩ : TBounds), 7)
      else
        (F_river_stream_hours (y1.1)).bind fun y3 =>
        (F_numbers_Within (0, y3, ([a3, a4] : List Int))).bind fun y4 =>
        bif (!y4) then
          some ((⟨0, 0⟩ : TBounds), 3)
        else
          bif (decide (a3 > a4)) then
            some ((⟨0, 0⟩ : TBounds), 3)
          else
            (idx? (y1.1.flows_) (a2)).bind fun x5 =>
            (slc? (x5) (a3) (a4)).bind fun l6 =>
            (F_numbers_Sum (l6)).bind fun y7 =>
            some (y7, 0)

noncomputable def B_thalwegref01_Flow (rec0 : (TRiver × (List (List TBounds)) × Int × Int) → Option (TBounds)) : (TRiver × (List (List TBounds)) × Int × Int) → Option (TBounds) := fun x => match x with
  | (a0, a1, a2, a3) =>
    bif (decide (a3 < 0)) then
      (idx? (a0.Reaches) (a2)).bind fun x1 =>
      some x1.Base
    else
      (idx? (a1) (a2)).bind fun x2 =>
      (idx? (x2) (a3)).bind fun x3 =>
      bif (decide (a2 > 0)) then
        (idx? (a0.Reaches) ((wr (a2 - 1)))).bind fun x4 =>
        (rec0 (a0, a1, (wr (a2 - 1)), (wr (a3 - x4.Delay)))).bind fun y5 =>
        some (⟨(wr (x3.Low + y5.Low)), (wr (x3.High + y5.High))⟩ : TBounds)
      else
        some x3
noncomputable def F_thalwegref01_Flow : (TRiver × (List (List TBounds)) × Int × Int) → Option (TBounds) := fixC B_thalwegref01_Flow

noncomputable def L_thalweglaw01_RiverVolumes_1 (y5 : TBounds × Int) (a0 : Tthalweglaw01_Forecast) (a1 : Tanon65) : LoopD (Int × Int × Int) ((Int × Int)) (Unit) where
  step := fun s => match s with
    | (s14, s15, s16) =>
      bif (decide (s14 < a1.a2)) then
        (F_thalwegref01_Flow (a0.River, a0.Sides, a1.a0, s14)).bind fun y18 =>
        some (.inl ((wr (s14 + 1)), (wr (s15 + y18.Low)), (wr (s16 + y18.High))))
      else
        some (.inr (s15, s16))
  at_ := fun s gh => match s, gh with
    | (s14, s15, s16), () => ⟨[(2, (V.box 0 0)), (3, (V.box 1 0)), (4, (V.v (.bool (false)))), (5, (V.box 21 0)), (6, (V.v (.int .i64 (y5.2)))), (8, (V.box 65 0)), (9, (V.v (.int .i64 (s14))))], [(0, Bx.var [(V.sl (recs eTReach (a0.River.Reaches)) (a0.River.Reaches).length), (V.sl (recs eTShoal (a0.River.Shoals)) (a0.River.Shoals).length), (V.sl (recs (eS eTBounds) (a0.Sides)) (a0.Sides).length)] false), (1, Bx.var [(V.v (.int .i64 (a1.a0))), (V.v (.int .i64 (a1.a1))), (V.v (.int .i64 (a1.a2)))] false), (21, Bx.var [(V.v (.int .i64 (y5.1.Low))), (V.v (.int .i64 (y5.1.High)))] false), (65, Bx.var [(V.v (.int .i64 (s15))), (V.v (.int .i64 (s16)))] false)], 66⟩
noncomputable def F_thalweglaw01_RiverVolumes : (Tthalweglaw01_Forecast × Tanon65) → Option (Bool) := fun x => match x with
  | (a0, a1) =>
    (F_thalweglaw01_large (a0)).bind fun y1 =>
    bif y1 then
      (F_thalweglaw01_known ()).bind fun y2 =>
      some y2
    else
      (F_thalweglaw01_copied (a0.River)).bind fun y3 =>
      (F_thalweglaw01_forecast (a0.Sides)).bind fun y4 =>
      (F_river_Volume (y3, y4, a1.a0, a1.a1, a1.a2)).bind fun y5 =>
      (F_thalwegref01_Start (a0.River, a0.Sides)).bind fun y6 =>
      bif (y6 == 0) then
        (F_thalwegref01_In (a1.a0, 0, (wr (((a0.Sides).length : Int) - 1)))).bind fun y7 =>
        bif (!y7) then
          bif (y5.2 == 7) then
            bif (y5.1.Low == 0 && (y5.1.High == 0 && true)) then
              (F_thalweglaw01_known ()).bind fun y8 =>
              some y8
            else
              some false
          else
            some false
        else
          bif (y6 == 0) then
            (F_thalwegref01_In (a1.a1, 0, a1.a2)).bind fun y9 =>
            bif (!y9) then
              bif (y5.2 == 3) then
                bif (y5.1.Low == 0 && (y5.1.High == 0 && true)) then
                  (F_thalweglaw01_known ()).bind fun y10 =>
                  some y10
                else
                  some false
              else
                some false
            else
              (idx? (a0.Sides) (0)).bind fun x11 =>
              bif (decide (a1.a2 > ((x11).length : Int))) then
                bif (y5.2 == 3) then
                  bif (y5.1.Low == 0 && (y5.1.High == 0 && true)) then
                    (F_thalweglaw01_known ()).bind fun y12 =>
                    some y12
                  else
                    some false
                else
                  some false
              else
                bif (y6 != 0) then
                  bif (y5.2 == y6) then
                    bif (y5.1.Low == 0 && (y5.1.High == 0 && true)) then
                      (F_thalweglaw01_known ()).bind fun y13 =>
                      some y13
                    else
                      some false
                  else
                    some false
                else
                  (loopC (L_thalweglaw01_RiverVolumes_1 y5 a0 a1).step (a1.a1, 0, 0)).bind fun e => match e with
                  | (s19, s20) =>
                    bif (y5.2 == 0) then
                      bif (y5.1.Low == s19 && (y5.1.High == s20 && true)) then
                        (F_thalweglaw01_known ()).bind fun y21 =>
                        some y21
                      else
                        some false
                    else
                      some false
          else
            bif (y6 != 0) then
              bif (y5.2 == y6) then
                bif (y5.1.Low == 0 && (y5.1.High == 0 && true)) then
                  (F_thalweglaw01_known ()).bind fun y22 =>
                  some y22
                else
                  some false
              else
                some false
            else
              (loopC (L_thalweglaw01_RiverVolumes_1 y5 a0 a1).step (a1.a1, 0, 0)).bind fun e => match e with
              | (s28, s29) =>
                bif (y5.2 == 0) then
                  bif (y5.1.Low == s28 && (y5.1.High == s29 && true)) then
                    (F_thalweglaw01_known ()).bind fun y30 =>
                    some y30
                  else
                    some false
                else
                  some false
      else
        bif (y6 == 0) then
          (F_thalwegref01_In (a1.a1, 0, a1.a2)).bind fun y31 =>
          bif (!y31) then
            bif (y5.2 == 3) then
              bif (y5.1.Low == 0 && (y5.1.High == 0 && true)) then
                (F_thalweglaw01_known ()).bind fun y32 =>
                some y32
              else
                some false
            else
              some false
          else
            (idx? (a0.Sides) (0)).bind fun x33 =>
            bif (decide (a1.a2 > ((x33).length : Int))) then
              bif (y5.2 == 3) then
                bif (y5.1.Low == 0 && (y5.1.High == 0 && true)) then
                  (F_thalweglaw01_known ()).bind fun y34 =>
                  some y34
                else
                  some false
              else
                some false
            else
              bif (y6 != 0) then
                bif (y5.2 == y6) then
                  bif (y5.1.Low == 0 && (y5.1.High == 0 && true)) then
                    (F_thalweglaw01_known ()).bind fun y35 =>
                    some y35
                  else
                    some false
                else
                  some false
              else
                (loopC (L_thalweglaw01_RiverVolumes_1 y5 a0 a1).step (a1.a1, 0, 0)).bind fun e => match e with
                | (s41, s42) =>
                  bif (y5.2 == 0) then
                    bif (y5.1.Low == s41 && (y5.1.High == s42 && true)) then
                      (F_thalweglaw01_known ()).bind fun y43 =>
                      some y43
                    else
                      some false
                  else
                    some false
        else
          bif (y6 != 0) then
            bif (y5.2 == y6) then
              bif (y5.1.Low == 0 && (y5.1.High == 0 && true)) then
                (F_thalweglaw01_known ()).bind fun y44 =>
                some y44
              else
                some false
            else
              some false
          else
            (loopC (L_thalweglaw01_RiverVolumes_1 y5 a0 a1).step (a1.a1, 0, 0)).bind fun e => match e with
            | (s50, s51) =>
              bif (y5.2 == 0) then
                bif (y5.1.Low == s50 && (y5.1.High == s51 && true)) then
                  (F_thalweglaw01_known ()).bind fun y52 =>
                  some y52
                else
                  some false
              else
                some false
end Go.Ev
/- What the functions do over typed data. -/
set_option linter.unusedVariables false
set_option linter.unusedSimpArgs false
namespace Go.Ev
open Go.Proofs
set_option maxHeartbeats 1000000
set_option maxRecDepth 100000
structure TClosure where
  From : Int
  To : Int
  Begin : TBounds
  End : TBounds
  deriving DecidableEq
def eTClosure (x : TClosure) : List V := [(V.v (.int .i64 (x.From))), (V.v (.int .i64 (x.To))), (V.v (.int .i64 (x.Begin.Low))), (V.v (.int .i64 (x.Begin.High))), (V.v (.int .i64 (x.End.Low))), (V.v (.int .i64 (x.End.High)))]
structure Tanon85 where
  a0 : Int
  a1 : Int
  deriving DecidableEq
def eTanon85 (x : Tanon85) : List V := [(V.v (.int .i64 (x.a0))), (V.v (.int .i64 (x.a1)))]
structure Tanon106 where
  a0 : Int
  a1 : Int
  a2 : Int
  deriving DecidableEq
def eTanon106 (x : Tanon106) : List V := [(V.v (.int .u16 (x.a0))), (V.v (.int .u16 (x.a1))), (V.v (.int .u16 (x.a2)))]

noncomputable def F_river_stream_level : (Triver_stream × Int × Int) → Option (TBounds) := fun x => match x with
  | (a0, a1, a2) =>
    (idx? (a0.River.Reaches) (a1)).bind fun x1 =>
    (idx? (a0.flows_) (a1)).bind fun x2 =>
    (idx? (x2) (a2)).bind fun x3 =>
    (F_river_levelAt (x1, x3)).bind fun y4 =>
    some y4

noncomputable def F_river_stream_findAt : (Triver_stream × Int × Int) → Option (Triver_site × Int) := fun x => match x with
  | (a0, a1, a2) =>
    (F_river_find (a0.River, a1)).bind fun y1 =>
    bif (!y1.2) then
      some ((⟨(⟨0, 0, (⟨0, 0⟩ : TBounds), ([] : List TRateRow), 0, (⟨0, 0⟩ : TBounds), 0⟩ : TReach), 0, 0, ([] : List TShoal)⟩ : Triver_site), 7)
    else
      (F_river_stream_hours (a0)).bind fun y2 =>
      (F_numbers_Within (0, (wr (y2 - 1)), ([a2] : List Int))).bind fun y3 =>
      bif (!y3) then
        some ((⟨(⟨0, 0, (⟨0, 0⟩ : TBounds), ([] : List TRateRow), 0, (⟨0, 0⟩ : TBounds), 0⟩ : TReach), 0, 0, ([] : List TShoal)⟩ : Triver_site), 3)
      else
        some (y1.1, 0)

noncomputable def F_river_checkClosures_1 : (TBounds) → Option (Bool) := fun x => match x with
  | (a0) =>
    (F_numbers_Valid (a0, (-400), 800)).bind fun y1 =>
    some y1

noncomputable def L_numbers_Every_Closure_1 (a1 : (TClosure → Option Bool)) (a0 : List TClosure) (g : FuncId) (caps : List V) : LoopD (Int) (Unit ⊕ Bool) (Unit) where
  step := fun s => match s with
    | s1 =>
      bif (decide (s1 < ((a0).length : Int))) then
        (idx? (a0) (s1)).bind fun x4 =>
        (a1 (x4)).bind fun y5 =>
        bif (!y5) then
          some (.inr (.inr false))
        else
          some (.inl (wr (s1 + 1)))
      else
        some (.inr (.inl ()))
  at_ := fun s gh => match s, gh with
    | s1, () => ⟨[(1, (V.fn g caps)), (4, (V.v (.bool (false)))), (7, (V.sl (recs eTClosure (a0)) (a0).length)), (8, (V.v (.int .i64 (((a0).length : Int))))), (9, (V.v (.int .i64 (s1))))], [], 0⟩
noncomputable def F_numbers_Every_Closure : ((List TClosure) × ((TClosure → Option Bool)) × FuncId × (List V)) → Option (Bool) := fun x => match x with
  | (a0, a1, g, caps) =>
    (loopC (L_numbers_Every_Closure_1 a1 a0 g caps).step 0).bind fun e => match e with
    | (.inl ()) =>
      some true
    | (.inr r6) =>
      some r6

noncomputable def F_river_checkClosures_2 : (TClosure × TRiver × ((TBounds → Option Bool)) × FuncId × (List V)) → Option (Bool) := fun x => match x with
  | (a0, c0, c1, g, caps) =>
    (F_river_find (c0, a0.From)).bind fun y1 =>
    (F_river_find (c0, a0.To)).bind fun y2 =>
    bif y1.2 then
      bif y2.2 then
        bif (decide (a0.From ≤ a0.To)) then
          (c1 (a0.Begin)).bind fun y3 =>
          bif y3 then
            (c1 (a0.End)).bind fun y4 =>
            some y4
          else
            some false
        else
          some false
      else
        some false
    else
      some false

noncomputable def F_river_checkClosures : (TRiver × (List TClosure)) → Option (Int) := fun x => match x with
  | (a0, a1) =>
    bif (decide (((a1).length : Int) > 40)) then
      some 5
    else
      (F_numbers_Every_Closure (a1, (fun q => F_river_checkClosures_2 (q, a0, (fun q => F_river_checkClosures_1 (q)), 97, [])), 99, [(V.fptr [(V.sl (recs eTReach (a0.Reaches)) (a0.Reaches).length), (V.sl (recs eTShoal (a0.Shoals)) (a0.Shoals).length)]), (V.fptr [(V.fn 97 [])])])).bind fun y1 =>
      bif (!y1) then
        some 2
      else
        some 0

noncomputable def L_slices_IndexFunc_L_Closure_Closure_1 (a0 : List TClosure) (a1 : (TClosure → Option Bool)) (g : FuncId) (caps : List V) : LoopD (Int) (Unit ⊕ Int) (Unit) where
  step := fun s => match s with
    | s1 =>
      bif (decide (s1 < ((a0).length : Int))) then
        (idx? (a0) (s1)).bind fun x4 =>
        (a1 (x4)).bind fun y5 =>
        bif y5 then
          some (.inr (.inr s1))
        else
          some (.inl (wr (s1 + 1)))
      else
        some (.inr (.inl ()))
  at_ := fun s gh => match s, gh with
    | s1, () => ⟨[(0, (V.sl (recs eTClosure (a0)) (a0).length)), (1, (V.fn g caps)), (4, (V.v (.int .i64 (0)))), (7, (V.v (.int .i64 (((a0).length : Int))))), (8, (V.v (.int .i64 (s1))))], [], 0⟩
noncomputable def F_slices_IndexFunc_L_Closure_Closure : ((List TClosure) × ((TClosure → Option Bool)) × FuncId × (List V)) → Option (Int) := fun x => match x with
  | (a0, a1, g, caps) =>
    (loopC (L_slices_IndexFunc_L_Closure_Closure_1 a0 a1 g caps).step 0).bind fun e => match e with
    | (.inl ()) =>
      some (-1)
    | (.inr r6) =>
      some r6

noncomputable def F_slices_ContainsFunc_L_Closure_Closure : ((List TClosure) × ((TClosure → Option Bool)) × FuncId × (List V)) → Option (Bool) := fun x => match x with
  | (a0, a1, g, caps) =>
    (F_slices_IndexFunc_L_Closure_Closure (a0, a1, g, caps)).bind fun y1 =>
    some (decide (y1 ≥ 0))

noncomputable def F_river_Closed_1 : (TClosure × Int × Int) → Option (Bool) := fun x => match x with
  | (a0, c0, c1) =>
    (F_numbers_Within (a0.From, a0.To, ([c0] : List Int))).bind fun y1 =>
    bif y1 then
      bif (decide (a0.Begin.Low ≤ c1)) then
        some (decide (c1 < a0.End.High))
      else
        some false
    else
      some false

noncomputable def F_river_Closed_2 : (TClosure × Int × Int) → Option (Bool) := fun x => match x with
  | (a0, c0, c1) =>
    (F_numbers_Within (a0.From, a0.To, ([c0] : List Int))).bind fun y1 =>
    bif y1 then
      bif (decide (a0.Begin.High ≤ c1)) then
        some (decide (c1 < a0.End.Low))
      else
        some false
    else
      some false

noncomputable def F_river_Closed : (TRiver × (List (List TBounds)) × (List TClosure) × Int × Int) → Option (Bool × Bool × Int) := fun x => match x with
  | (a0, a1, a2, a3, a4) =>
    (F_river_run (a0, a1)).bind fun y1 =>
    bif (y1.2 != 0) then
      some (false, false, y1.2)
    else
      (F_river_checkClosures (a0, a2)).bind fun y2 =>
      bif (y2 != 0) then
        some (false, false, y2)
      else
        (F_river_stream_findAt (y1.1, a3, a4)).bind fun y3 =>
        bif (y3.2 != 0) then
          some (false, false, y3.2)
        else
          (F_river_stream_level (y1.1, y3.1.number_, a4)).bind fun y4 =>
          bif (decide (y4.High > y3.1.Reach.Flood)) then
            bif (decide (y4.Low > y3.1.Reach.Flood)) then
              some (true, true, 0)
            else
              (F_slices_ContainsFunc_L_Closure_Closure (a2, (fun q => F_river_Closed_2 (q, a3, a4)), 87, [(V.fptr [(V.v (.int .i64 (a3)))]), (V.fptr [(V.v (.int .i64 (a4)))])])).bind fun y5 =>
              some (true, y5, 0)
          else
            (F_slices_ContainsFunc_L_Closure_Closure (a2, (fun q => F_river_Closed_1 (q, a3, a4)), 86, [(V.fptr [(V.v (.int .i64 (a3)))]), (V.fptr [(V.v (.int .i64 (a4)))])])).bind fun y6 =>
            bif (decide (y4.Low > y3.1.Reach.Flood)) then
              some (y6, true, 0)
            else
              (F_slices_ContainsFunc_L_Closure_Closure (a2, (fun q => F_river_Closed_2 (q, a3, a4)), 87, [(V.fptr [(V.v (.int .i64 (a3)))]), (V.fptr [(V.v (.int .i64 (a4)))])])).bind fun y7 =>
              some (y6, y7, 0)

noncomputable def L_thalwegref01_Closures_1 (a1 : List TClosure) (a0 : TRiver) : LoopD (Int) (Unit ⊕ Int) (Unit) where
  step := fun s => match s with
    | s1 =>
      bif (decide (s1 < ((a1).length : Int))) then
        (idx? (a1) (s1)).bind fun x9 =>
        (F_thalwegref01_Places (a0)).bind fun y10 =>
        (F_thalwegref01_In (x9.From, 0, (wr (y10 - 1)))).bind fun y11 =>
        bif (!y11) then
          some (.inr (.inr 2))
        else
          (F_thalwegref01_Places (a0)).bind fun y12 =>
          (F_thalwegref01_In (x9.To, x9.From, (wr (y12 - 1)))).bind fun y13 =>
          bif (!y13) then
            some (.inr (.inr 2))
          else
            (F_thalwegref01_Valid (x9.Begin, (-400), 800)).bind fun y14 =>
            bif (!y14) then
              some (.inr (.inr 2))
            else
              (F_thalwegref01_Valid (x9.End, (-400), 800)).bind fun y15 =>
              bif (!y15) then
                some (.inr (.inr 2))
              else
                some (.inl (wr (s1 + 1)))
      else
        some (.inr (.inl ()))
  at_ := fun s gh => match s, gh with
    | s1, () => ⟨[(1, (V.sl (recs eTClosure (a1)) (a1).length)), (2, (V.box 0 0)), (4, (V.v (.int .i64 (0)))), (5, (V.v (.int .i64 (s1))))], [(0, Bx.var [(V.sl (recs eTReach (a0.Reaches)) (a0.Reaches).length), (V.sl (recs eTShoal (a0.Shoals)) (a0.Shoals).length)] false)], 1⟩
noncomputable def F_thalwegref01_Closures : (TRiver × (List TClosure)) → Option (Int) := fun x => match x with
  | (a0, a1) =>
    bif (decide (((a1).length : Int) > 40)) then
      some 5
    else
      (loopC (L_thalwegref01_Closures_1 a1 a0).step 0).bind fun e => match e with
      | (.inl ()) =>
        some 0
      | (.inr r16) =>
        some r16

noncomputable def L_thalwegref01_Of_1 (a0 : TRiver) : LoopD (Int × Int) (Int) (Unit) where
  step := fun s => match s with
    | (s1, s2) =>
      (idx? (a0.Reaches) (s2)).bind fun x5 =>
      bif (decide (s1 ≥ x5.Length)) then
        (idx? (a0.Reaches) (s2)).bind fun x6 =>
        some (.inl ((wr (s1 - x6.Length)), (wr (s2 + 1))))
      else
        some (.inr s2)
  at_ := fun s gh => match s, gh with
    | (s1, s2), () => ⟨[(1, (V.v (.int .i64 (s1)))), (2, (V.box 0 0)), (4, (V.v (.int .i64 (0)))), (5, (V.v (.int .i64 (s2))))], [(0, Bx.var [(V.sl (recs eTReach (a0.Reaches)) (a0.Reaches).length), (V.sl (recs eTShoal (a0.Shoals)) (a0.Shoals).length)] false)], 1⟩
noncomputable def F_thalwegref01_Of : (TRiver × Int) → Option (Int) := fun x => match x with
  | (a0, a1) =>
    (loopC (L_thalwegref01_Of_1 a0).step (a1, 0)).bind fun e => match e with
    | s7 =>
      some s7

noncomputable def L_thalwegref01_Closed_1 (a2 : List TClosure) (a3 : Int) (a4 : Int) : LoopD (Int × Bool × Bool) ((Bool × Bool)) (Unit) where
  step := fun s => match s with
    | (s7, s8, s9) =>
      bif (decide (s7 < ((a2).length : Int))) then
        (idx? (a2) (s7)).bind fun x12 =>
        (F_thalwegref01_In (a3, x12.From, x12.To)).bind fun y13 =>
        bif (!y13) then
          some (.inl ((wr (s7 + 1)), s8, s9))
        else
          bif s8 then
            bif s9 then
              some (.inl ((wr (s7 + 1)), true, true))
            else
              bif (decide (a4 ≥ x12.Begin.High)) then
                some (.inl ((wr (s7 + 1)), true, (decide (a4 < x12.End.Low))))
              else
                some (.inl ((wr (s7 + 1)), true, false))
          else
            bif (decide (a4 ≥ x12.Begin.Low)) then
              bif s9 then
                some (.inl ((wr (s7 + 1)), (decide (a4 < x12.End.High)), true))
              else
                bif (decide (a4 ≥ x12.Begin.High)) then
                  some (.inl ((wr (s7 + 1)), (decide (a4 < x12.End.High)), (decide (a4 < x12.End.Low))))
                else
                  some (.inl ((wr (s7 + 1)), (decide (a4 < x12.End.High)), false))
            else
              bif s9 then
                some (.inl ((wr (s7 + 1)), false, true))
              else
                bif (decide (a4 ≥ x12.Begin.High)) then
                  some (.inl ((wr (s7 + 1)), false, (decide (a4 < x12.End.Low))))
                else
                  some (.inl ((wr (s7 + 1)), false, false))
      else
        some (.inr (s8, s9))
  at_ := fun s gh => match s, gh with
    | (s7, s8, s9), () => ⟨[(2, (V.sl (recs eTClosure (a2)) (a2).length)), (3, (V.v (.int .i64 (a3)))), (4, (V.v (.int .i64 (a4)))), (10, (V.v (.bool (false)))), (11, (V.v (.bool (false)))), (14, (V.v (.bool (s8)))), (15, (V.v (.bool (s9)))), (16, (V.v (.int .i64 (s7))))], [], 0⟩
noncomputable def F_thalwegref01_Closed : (TRiver × (List (List TBounds)) × (List TClosure) × Int × Int) → Option (Bool × Bool) := fun x => match x with
  | (a0, a1, a2, a3, a4) =>
    (F_thalwegref01_Of (a0, a3)).bind fun y1 =>
    (idx? (a0.Reaches) (y1)).bind fun x2 =>
    (F_thalwegref01_Flow (a0, a1, y1, a4)).bind fun y3 =>
    (F_thalwegref01_Level (x2, y3)).bind fun y4 =>
    (idx? (a0.Reaches) (y1)).bind fun x5 =>
    (idx? (a0.Reaches) (y1)).bind fun x6 =>
    (loopC (L_thalwegref01_Closed_1 a2 a3 a4).step (0, (decide (y4.High > x5.Flood)), (decide (y4.Low > x6.Flood)))).bind fun e => match e with
    | (s14, s15) =>
      some (s14, s15)

noncomputable def L_thalweglaw01_RiverCloses_1 (a1 : List TClosure) (y7 : Bool × Bool × Int) (a0 : Tthalweglaw01_Forecast) (a2 : Tanon85) (l4 : List TClosure) : LoopD (Int) (Unit ⊕ Bool) (Nat) where
  step := fun s => match s with
    | s8 =>
      bif (decide (s8 < ((a1).length : Int))) then
        (idx? (l4) (s8)).bind fun x12 =>
        (idx? (a1) (s8)).bind fun x14 =>
        bif (!(x12.From == x14.From && (x12.To == x14.To && (x12.Begin.Low == x14.Begin.Low && (x12.Begin.High == x14.Begin.High && (x12.End.Low == x14.End.Low && (x12.End.High == x14.End.High && true))))))) then
          some (.inr (.inr false))
        else
          some (.inl (wr (s8 + 1)))
      else
        some (.inr (.inl ()))
  at_ := fun s gh => match s, gh with
    | s8, p12 => ⟨[(1, (V.sl (recs eTClosure (a1)) (a1).length)), (3, (V.box 0 0)), (5, (V.box 1 0)), (6, (V.v (.bool (false)))), (7, (V.osl 12 (l4).length)), (8, (V.v (.bool (y7.1)))), (9, (V.v (.bool (y7.2.1)))), (10, (V.v (.int .i64 (y7.2.2)))), (11, (V.v (.int .i64 (s8))))], [(0, Bx.var [(V.sl (recs eTReach (a0.River.Reaches)) (a0.River.Reaches).length), (V.sl (recs eTShoal (a0.River.Shoals)) (a0.River.Shoals).length), (V.sl (recs (eS eTBounds) (a0.Sides)) (a0.Sides).length)] false), (1, Bx.var [(V.v (.int .i64 (a2.a0))), (V.v (.int .i64 (a2.a1)))] false), (12, Bx.row 89 6 (recs eTClosure (l4)) p12)], 13⟩
noncomputable def F_thalweglaw01_RiverCloses : (Tthalweglaw01_Forecast × (List TClosure) × Tanon85) → Option (Bool) := fun x => match x with
  | (a0, a1, a2) =>
    (F_thalweglaw01_large (a0)).bind fun y1 =>
    bif y1 then
      (F_thalweglaw01_known ()).bind fun y2 =>
      some y2
    else
      bif (decide (((a1).length : Int) > 50)) then
        (F_thalweglaw01_known ()).bind fun y3 =>
        some y3
      else
        (app? (([] : List TClosure)) (a1) 48).bind fun l4 =>
        (F_thalweglaw01_copied (a0.River)).bind fun y5 =>
        (F_thalweglaw01_forecast (a0.Sides)).bind fun y6 =>
        (F_river_Closed (y5, y6, l4, a2.a0, a2.a1)).bind fun y7 =>
        (loopC (L_thalweglaw01_RiverCloses_1 a1 y7 a0 a2 l4).step 0).bind fun e => match e with
        | (.inl ()) =>
          (F_thalwegref01_Start (a0.River, a0.Sides)).bind fun y15 =>
          bif (y15 == 0) then
            (F_thalwegref01_Closures (a0.River, a1)).bind fun y16 =>
            bif (y16 == 0) then
              (F_thalwegref01_Places (a0.River)).bind fun y17 =>
              (F_thalwegref01_In (a2.a0, 0, (wr (y17 - 1)))).bind fun y18 =>
              bif (!y18) then
                bif (y7.2.2 == 7) then
                  bif (!y7.1) then
                    bif (!y7.2.1) then
                      (F_thalweglaw01_known ()).bind fun y19 =>
                      some y19
                    else
                      some false
                  else
                    some false
                else
                  some false
              else
                (idx? (a0.Sides) (0)).bind fun x20 =>
                (F_thalwegref01_In (a2.a1, 0, (wr (((x20).length : Int) - 1)))).bind fun y21 =>
                bif (!y21) then
                  bif (y7.2.2 == 3) then
                    bif (!y7.1) then
                      bif (!y7.2.1) then
                        (F_thalweglaw01_known ()).bind fun y22 =>
                        some y22
                      else
                        some false
                    else
                      some false
                  else
                    some false
                else
                  (F_thalwegref01_Closed (a0.River, a0.Sides, a1, a2.a0, a2.a1)).bind fun y23 =>
                  bif (y7.2.2 == 0) then
                    bif (y7.1 == y23.1) then
                      bif (y7.2.1 == y23.2) then
                        (F_thalweglaw01_known ()).bind fun y24 =>
                        some y24
                      else
                        some false
                    else
                      some false
                  else
                    some false
            else
              bif (y7.2.2 == y16) then
                bif (!y7.1) then
                  bif (!y7.2.1) then
                    (F_thalweglaw01_known ()).bind fun y25 =>
                    some y25
                  else
                    some false
                else
                  some false
              else
                some false
          else
            bif (y7.2.2 == y15) then
              bif (!y7.1) then
                bif (!y7.2.1) then
                  (F_thalweglaw01_known ()).bind fun y26 =>
                  some y26
                else
                  some false
              else
                some false
            else
              some false
        | (.inr r27) =>
          some r27

noncomputable def L_thalweglaw01_valid_1 (s5 : Int) (a0 : Tthalweglaw01_Forecast) : LoopD (Int) (Unit ⊕ Bool) (Unit) where
  step := fun s => match s with
    | s18 =>
      (idx? (a0.Sides) (s5)).bind fun x22 =>
      bif (decide (s18 < ((x22).length : Int))) then
        (idx? (a0.Sides) (s5)).bind fun x23 =>
        (idx? (x23) (s18)).bind fun x24 =>
        bif (decide (x24.Low < 0)) then
          some (.inr (.inr false))
        else
          bif (decide (x24.Low > x24.High)) then
            some (.inr (.inr false))
          else
            bif (decide (x24.High > 10000000000)) then
              some (.inr (.inr false))
            else
              some (.inl (wr (s18 + 1)))
      else
        some (.inr (.inl ()))
  at_ := fun s gh => match s, gh with
    | s18, () => ⟨[(1, (V.box 0 0)), (2, (V.v (.bool (false)))), (3, (V.v (.int .i64 (s5)))), (4, (V.v (.int .i64 (s18))))], [(0, Bx.var [(V.sl (recs eTReach (a0.River.Reaches)) (a0.River.Reaches).length), (V.sl (recs eTShoal (a0.River.Shoals)) (a0.River.Shoals).length), (V.sl (recs (eS eTBounds) (a0.Sides)) (a0.Sides).length)] false)], 1⟩
noncomputable def L_thalweglaw01_valid_2 (a0 : Tthalweglaw01_Forecast) : LoopD (Int) (Unit ⊕ Bool) (Unit) where
  step := fun s => match s with
    | s5 =>
      bif (decide (s5 < ((a0.Sides).length : Int))) then
        (idx? (a0.Sides) (s5)).bind fun x16 =>
        (idx? (a0.Sides) (0)).bind fun x17 =>
        bif (((x16).length : Int) != ((x17).length : Int)) then
          some (.inr (.inr false))
        else
          (loopC (L_thalweglaw01_valid_1 s5 a0).step 0).bind fun e => match e with
          | (.inl ()) =>
            some (.inl (wr (s5 + 1)))
          | (.inr r25) =>
            some (.inr (.inr r25))
      else
        some (.inr (.inl ()))
  at_ := fun s gh => match s, gh with
    | s5, () => ⟨[(1, (V.box 0 0)), (2, (V.v (.bool (false)))), (3, (V.v (.int .i64 (s5))))], [(0, Bx.var [(V.sl (recs eTReach (a0.River.Reaches)) (a0.River.Reaches).length), (V.sl (recs eTShoal (a0.River.Shoals)) (a0.River.Shoals).length), (V.sl (recs (eS eTBounds) (a0.Sides)) (a0.Sides).length)] false)], 1⟩
noncomputable def F_thalweglaw01_valid : (Tthalweglaw01_Forecast) → Option (Bool) := fun x => match x with
  | (a0) =>
    (F_thalweglaw01_large (a0)).bind fun y1 =>
    bif y1 then
      some false
    else
      bif (decide (((a0.River.Reaches).length : Int) < 1)) then
        some false
      else
        bif (((a0.Sides).length : Int) != ((a0.River.Reaches).length : Int)) then
          some false
        else
          (idx? (a0.Sides) (0)).bind fun x2 =>
          bif (decide (((x2).length : Int) < 1)) then
            some false
          else
            (F_thalweglaw01_copied (a0.River)).bind fun y3 =>
            (F_river_Check (y3)).bind fun y4 =>
            bif (y4 != 0) then
              some false
            else
              (loopC (L_thalweglaw01_valid_2 a0).step 0).bind fun e => match e with
              | (.inl ()) =>
                (idx? (a0.Sides) (0)).bind fun x26 =>
                some (decide (((x26).length : Int) ≤ 400))
              | (.inr r27) =>
                some r27

noncomputable def L_thalweglaw01_RiverKeeps_1 (a1 : Tanon106) (a0 : Tthalweglaw01_Forecast) (x3 : List TBounds) (y9 : TBounds × Int) : LoopD (Int × Int × Int) ((Int × Int)) (Unit) where
  step := fun s => match s with
    | (s13, s14, s15) =>
      bif (decide (s13 < (wr ((Int.tmod (wr (a1.a1)) (wr (((x3).length : Int) + 1))) + (Int.tmod (wr (a1.a2)) (wr ((wr (((x3).length : Int) + 1)) - (Int.tmod (wr (a1.a1)) (wr (((x3).length : Int) + 1)))))))))) then
        (idx? (a0.Sides) ((Int.tmod (wr (a1.a0)) ((a0.Sides).length : Int)))).bind fun x20 =>
        (idx? (x20) (s13)).bind fun x21 =>
        (idx? (a0.Sides) ((Int.tmod (wr (a1.a0)) ((a0.Sides).length : Int)))).bind fun x22 =>
        (idx? (x22) (s13)).bind fun x23 =>
        some (.inl ((wr (s13 + 1)), (wr (s14 + x21.Low)), (wr (s15 + x23.High))))
      else
        some (.inr (s14, s15))
  at_ := fun s gh => match s, gh with
    | (s13, s14, s15), () => ⟨[(2, (V.box 0 0)), (4, (V.v (.bool (false)))), (6, (V.v (.int .i64 ((Int.tmod (wr (a1.a0)) ((a0.Sides).length : Int)))))), (7, (V.v (.int .i64 ((Int.tmod (wr (a1.a1)) (wr (((x3).length : Int) + 1))))))), (8, (V.v (.int .i64 ((wr ((Int.tmod (wr (a1.a1)) (wr (((x3).length : Int) + 1))) + (Int.tmod (wr (a1.a2)) (wr ((wr (((x3).length : Int) + 1)) - (Int.tmod (wr (a1.a1)) (wr (((x3).length : Int) + 1)))))))))))), (11, (V.box 66 0)), (15, (V.box 127 0)), (16, (V.v (.int .i64 (s13))))], [(0, Bx.var [(V.sl (recs eTReach (a0.River.Reaches)) (a0.River.Reaches).length), (V.sl (recs eTShoal (a0.River.Shoals)) (a0.River.Shoals).length), (V.sl (recs (eS eTBounds) (a0.Sides)) (a0.Sides).length)] false), (66, Bx.var [(V.v (.int .i64 (y9.1.Low))), (V.v (.int .i64 (y9.1.High)))] false), (127, Bx.var [(V.v (.int .i64 (s14))), (V.v (.int .i64 (s15)))] false)], 128⟩
noncomputable def F_thalweglaw01_RiverKeeps : (Tthalweglaw01_Forecast × Tanon106) → Option (Bool) := fun x => match x with
  | (a0, a1) =>
    (F_thalweglaw01_valid (a0)).bind fun y1 =>
    bif (!y1) then
      (F_thalweglaw01_known ()).bind fun y2 =>
      some y2
    else
      (idx? (a0.Sides) (0)).bind fun x3 =>
      (nz? (((a0.Sides).length : Int))).bind fun _ =>
      (nz? ((wr (((x3).length : Int) + 1)))).bind fun _ =>
      (nz? ((wr ((wr (((x3).length : Int) + 1)) - (Int.tmod (wr (a1.a1)) (wr (((x3).length : Int) + 1))))))).bind fun _ =>
      (F_thalweglaw01_copied (a0.River)).bind fun y4 =>
      (F_thalweglaw01_forecast (a0.Sides)).bind fun y5 =>
      (F_river_Volume (y4, y5, (Int.tmod (wr (a1.a0)) ((a0.Sides).length : Int)), 0, (Int.tmod (wr (a1.a1)) (wr (((x3).length : Int) + 1))))).bind fun y6 =>
      (F_thalweglaw01_copied (a0.River)).bind fun y7 =>
      (F_thalweglaw01_forecast (a0.Sides)).bind fun y8 =>
      (F_river_Volume (y7, y8, (Int.tmod (wr (a1.a0)) ((a0.Sides).length : Int)), (Int.tmod (wr (a1.a1)) (wr (((x3).length : Int) + 1))), (wr ((Int.tmod (wr (a1.a1)) (wr (((x3).length : Int) + 1))) + (Int.tmod (wr (a1.a2)) (wr ((wr (((x3).length : Int) + 1)) - (Int.tmod (wr (a1.a1)) (wr (((x3).length : Int) + 1)))))))))).bind fun y9 =>
      (F_thalweglaw01_copied (a0.River)).bind fun y10 =>
      (F_thalweglaw01_forecast (a0.Sides)).bind fun y11 =>
      (F_river_Volume (y10, y11, (Int.tmod (wr (a1.a0)) ((a0.Sides).length : Int)), 0, (wr ((Int.tmod (wr (a1.a1)) (wr (((x3).length : Int) + 1))) + (Int.tmod (wr (a1.a2)) (wr ((wr (((x3).length : Int) + 1)) - (Int.tmod (wr (a1.a1)) (wr (((x3).length : Int) + 1)))))))))).bind fun y12 =>
      bif (y6.2 != 0) then
        some false
      else
        bif (y9.2 != 0) then
          some false
        else
          bif (y12.2 != 0) then
            some false
          else
            bif ((wr (y6.1.Low + y9.1.Low)) != y12.1.Low) then
              some false
            else
              bif ((wr (y6.1.High + y9.1.High)) != y12.1.High) then
                some false
              else
                bif (decide (y9.1.Low < 0)) then
                  some false
                else
                  bif (decide (y9.1.Low > y9.1.High)) then
                    some false
                  else
                    (loopC (L_thalweglaw01_RiverKeeps_1 a1 a0 x3 y9).step ((Int.tmod (wr (a1.a1)) (wr (((x3).length : Int) + 1))), 0, 0)).bind fun e => match e with
                    | (s24, s25) =>
                      bif ((Int.tmod (wr (a1.a0)) ((a0.Sides).length : Int)) == 0) then
                        bif (y9.1.Low == s24 && (y9.1.High == s25 && true)) then
                          (F_thalweglaw01_known ()).bind fun y26 =>
                          some y26
                        else
                          some false
                      else
                        (idx? (a0.River.Reaches) ((wr ((Int.tmod (wr (a1.a0)) ((a0.Sides).length : Int)) - 1)))).bind fun x27 =>
                        bif (decide ((Int.tmod (wr (a1.a1)) (wr (((x3).length : Int) + 1))) < x27.Delay)) then
                          bif (decide (y9.1.Low ≥ s24)) then
                            bif (decide (y9.1.High ≥ s25)) then
                              (F_thalweglaw01_known ()).bind fun y28 =>
                              some y28
                            else
                              some false
                          else
                            some false
                        else
                          (F_thalweglaw01_copied (a0.River)).bind fun y29 =>
                          (F_thalweglaw01_forecast (a0.Sides)).bind fun y30 =>
                          (F_river_Volume (y29, y30, (wr ((Int.tmod (wr (a1.a0)) ((a0.Sides).length : Int)) - 1)), (wr ((Int.tmod (wr (a1.a1)) (wr (((x3).length : Int) + 1))) - x27.Delay)), (wr ((wr ((Int.tmod (wr (a1.a1)) (wr (((x3).length : Int) + 1))) + (Int.tmod (wr (a1.a2)) (wr ((wr (((x3).length : Int) + 1)) - (Int.tmod (wr (a1.a1)) (wr (((x3).length : Int) + 1)))))))) - x27.Delay)))).bind fun y31 =>
                          bif (y31.2 == 0) then
                            bif (y9.1.Low == (wr (y31.1.Low + s24)) && (y9.1.High == (wr (y31.1.High + s25)) && true)) then
                              (F_thalweglaw01_known ()).bind fun y32 =>
                              some y32
                            else
                              some false
                          else
                            some false
end Go.Ev
/- What the arguments of the law are. -/
set_option linter.unusedVariables false
set_option linter.unusedSimpArgs false
namespace Go.Ev
open Go.Proofs
set_option maxRecDepth 100000
theorem typ_list {α : Type} {enc : α → List V} {k : α → Prop} {n : Nat} {e : TypeId} (h : ∀ vs, Typ Try.prog n e vs → ∃ a, vs = enc a ∧ k a) : ∀ (ls : List (List V)), (∀ l ∈ ls, Typ Try.prog n e l) → ∃ l : List α, ls.flatten = recs enc l ∧ ls.length = l.length ∧ ∀ x ∈ l, k x
  | [], _ => ⟨[], rfl, rfl, fun x hx => by cases hx⟩
  | x :: ls, hl => by
    obtain ⟨a, rfl, ha⟩ := h x (hl x (by simp))
    obtain ⟨l, h1, h2, h3⟩ := typ_list h ls fun y hy => hl y (by simp [hy])
    refine ⟨a :: l, by simp [recs, List.flatten_cons, h1], by simp [h2], ?_⟩
    intro x hx
    cases hx with
    | head => exact ha
    | tail _ hx => exact h3 x hx
def kIi64 (i : Int) : Prop := IntKind.i64.min ≤ i ∧ i ≤ IntKind.i64.max
theorem typ_Ii64_3 {n : Nat} {vs : List V} (h : Typ Try.prog (n + 1) 3 vs) : ∃ x : Int, vs = [(V.v (.int .i64 (x)))] ∧ kIi64 (x) := by
  simp only [Typ, Try.underlying3] at h
  obtain ⟨i, rfl, hw⟩ := h
  refine ⟨i, rfl, ?_⟩
  simp only [Lit.wf, Bool.and_eq_true, decide_eq_true_eq] at hw
  exact hw
def kTBounds (x : TBounds) : Prop := kIi64 (x.Low) ∧ kIi64 (x.High)
theorem typ_TBounds_27 {n : Nat} {vs : List V} (h : Typ Try.prog (n + 2) 27 vs) : ∃ x : TBounds, vs = eTBounds x ∧ kTBounds x := by
  unfold Typ at h
  simp only [Try.underlying27] at h
  obtain ⟨ls, rfl, h⟩ := h
  obtain ⟨v0, v1, rfl, h0, h1⟩ := all2_2 h
  obtain ⟨x0, rfl, k0⟩ := typ_Ii64_3 (n := n + 0) h0
  obtain ⟨x1, rfl, k1⟩ := typ_Ii64_3 (n := n + 0) h1
  exact ⟨⟨x0, x1⟩, rfl, k0, k1⟩
def kTRateRow (x : TRateRow) : Prop := kIi64 (x.Flow) ∧ kIi64 (x.Level)
theorem typ_TRateRow_120 {n : Nat} {vs : List V} (h : Typ Try.prog (n + 2) 120 vs) : ∃ x : TRateRow, vs = eTRateRow x ∧ kTRateRow x := by
  unfold Typ at h
  simp only [Try.underlying120] at h
  obtain ⟨ls, rfl, h⟩ := h
  obtain ⟨v0, v1, rfl, h0, h1⟩ := all2_2 h
  obtain ⟨x0, rfl, k0⟩ := typ_Ii64_3 (n := n + 0) h0
  obtain ⟨x1, rfl, k1⟩ := typ_Ii64_3 (n := n + 0) h1
  exact ⟨⟨x0, x1⟩, rfl, k0, k1⟩
def kLTRateRow (l : List TRateRow) : Prop := l.length ≤ 140737488355328 ∧ ∀ x ∈ l, kTRateRow (x)
theorem typ_LTRateRow_28 {n : Nat} {vs : List V} (h : Typ Try.prog (n + 3) 28 vs) : ∃ x : List TRateRow, vs = [(V.sl (recs eTRateRow (x)) (x).length)] ∧ kLTRateRow (x) := by
  unfold Typ at h
  simp only [Try.underlying28] at h
  obtain ⟨ls, rfl, h1, h2⟩ := h
  obtain ⟨l, h3, h4, h5⟩ := typ_list (enc := eTRateRow) (fun vs hv => typ_TRateRow_120 (n := n) hv) ls h1
  refine ⟨l, by rw [h3, h4], ?_, h5⟩
  have hb : Try.prog.bytesOf 120 = 16 := by kernel_rfl
  rw [hb, h4] at h2
  have : reachBytes = 140737488351232 := rfl
  omega
def kTReach (x : TReach) : Prop := kIi64 (x.Length) ∧ kIi64 (x.Delay) ∧ kTBounds (x.Base) ∧ kLTRateRow (x.Curve) ∧ kIi64 (x.Weir) ∧ kTBounds (x.Bottom) ∧ kIi64 (x.Flood)
theorem typ_TReach_30 {n : Nat} {vs : List V} (h : Typ Try.prog (n + 4) 30 vs) : ∃ x : TReach, vs = eTReach x ∧ kTReach x := by
  unfold Typ at h
  simp only [Try.underlying30] at h
  obtain ⟨ls, rfl, h⟩ := h
  obtain ⟨v0, v1, v2, v3, v4, v5, v6, rfl, h0, h1, h2, h3, h4, h5, h6⟩ := all2_7 h
  obtain ⟨x0, rfl, k0⟩ := typ_Ii64_3 (n := n + 2) h0
  obtain ⟨x1, rfl, k1⟩ := typ_Ii64_3 (n := n + 2) h1
  obtain ⟨x2, rfl, k2⟩ := typ_TBounds_27 (n := n + 1) h2
  obtain ⟨x3, rfl, k3⟩ := typ_LTRateRow_28 (n := n + 0) h3
  obtain ⟨x4, rfl, k4⟩ := typ_Ii64_3 (n := n + 2) h4
  obtain ⟨x5, rfl, k5⟩ := typ_TBounds_27 (n := n + 1) h5
  obtain ⟨x6, rfl, k6⟩ := typ_Ii64_3 (n := n + 2) h6
  exact ⟨⟨x0, x1, x2, x3, x4, x5, x6⟩, rfl, k0, k1, k2, k3, k4, k5, k6⟩
def kLTReach (l : List TReach) : Prop := l.length ≤ 140737488355328 ∧ ∀ x ∈ l, kTReach (x)
theorem typ_LTReach_22 {n : Nat} {vs : List V} (h : Typ Try.prog (n + 5) 22 vs) : ∃ x : List TReach, vs = [(V.sl (recs eTReach (x)) (x).length)] ∧ kLTReach (x) := by
  unfold Typ at h
  simp only [Try.underlying22] at h
  obtain ⟨ls, rfl, h1, h2⟩ := h
  obtain ⟨l, h3, h4, h5⟩ := typ_list (enc := eTReach) (fun vs hv => typ_TReach_30 (n := n) hv) ls h1
  refine ⟨l, by rw [h3, h4], ?_, h5⟩
  have hb : Try.prog.bytesOf 30 = 88 := by kernel_rfl
  rw [hb, h4] at h2
  have : reachBytes = 140737488351232 := rfl
  omega
def kTShoal (x : TShoal) : Prop := kIi64 (x.Place) ∧ kTBounds (x.Bed) ∧ kIi64 (x.Sounded) ∧ kTBounds (x.Grow)
theorem typ_TShoal_102 {n : Nat} {vs : List V} (h : Typ Try.prog (n + 3) 102 vs) : ∃ x : TShoal, vs = eTShoal x ∧ kTShoal x := by
  unfold Typ at h
  simp only [Try.underlying102] at h
  obtain ⟨ls, rfl, h⟩ := h
  obtain ⟨v0, v1, v2, v3, rfl, h0, h1, h2, h3⟩ := all2_4 h
  obtain ⟨x0, rfl, k0⟩ := typ_Ii64_3 (n := n + 1) h0
  obtain ⟨x1, rfl, k1⟩ := typ_TBounds_27 (n := n + 0) h1
  obtain ⟨x2, rfl, k2⟩ := typ_Ii64_3 (n := n + 1) h2
  obtain ⟨x3, rfl, k3⟩ := typ_TBounds_27 (n := n + 0) h3
  exact ⟨⟨x0, x1, x2, x3⟩, rfl, k0, k1, k2, k3⟩
def kLTShoal (l : List TShoal) : Prop := l.length ≤ 140737488355328 ∧ ∀ x ∈ l, kTShoal (x)
theorem typ_LTShoal_23 {n : Nat} {vs : List V} (h : Typ Try.prog (n + 4) 23 vs) : ∃ x : List TShoal, vs = [(V.sl (recs eTShoal (x)) (x).length)] ∧ kLTShoal (x) := by
  unfold Typ at h
  simp only [Try.underlying23] at h
  obtain ⟨ls, rfl, h1, h2⟩ := h
  obtain ⟨l, h3, h4, h5⟩ := typ_list (enc := eTShoal) (fun vs hv => typ_TShoal_102 (n := n) hv) ls h1
  refine ⟨l, by rw [h3, h4], ?_, h5⟩
  have hb : Try.prog.bytesOf 102 = 48 := by kernel_rfl
  rw [hb, h4] at h2
  have : reachBytes = 140737488351232 := rfl
  omega
def kTRiver (x : TRiver) : Prop := kLTReach (x.Reaches) ∧ kLTShoal (x.Shoals)
theorem typ_TRiver_25 {n : Nat} {vs : List V} (h : Typ Try.prog (n + 6) 25 vs) : ∃ x : TRiver, vs = eTRiver x ∧ kTRiver x := by
  unfold Typ at h
  simp only [Try.underlying25] at h
  obtain ⟨ls, rfl, h⟩ := h
  obtain ⟨v0, v1, rfl, h0, h1⟩ := all2_2 h
  obtain ⟨x0, rfl, k0⟩ := typ_LTReach_22 (n := n + 0) h0
  obtain ⟨x1, rfl, k1⟩ := typ_LTShoal_23 (n := n + 1) h1
  exact ⟨⟨x0, x1⟩, rfl, k0, k1⟩
def kLTBounds (l : List TBounds) : Prop := l.length ≤ 140737488355328 ∧ ∀ x ∈ l, kTBounds (x)
theorem typ_LTBounds_50 {n : Nat} {vs : List V} (h : Typ Try.prog (n + 3) 50 vs) : ∃ x : List TBounds, vs = [(V.sl (recs eTBounds (x)) (x).length)] ∧ kLTBounds (x) := by
  unfold Typ at h
  simp only [Try.underlying50] at h
  obtain ⟨ls, rfl, h1, h2⟩ := h
  obtain ⟨l, h3, h4, h5⟩ := typ_list (enc := eTBounds) (fun vs hv => typ_TBounds_27 (n := n) hv) ls h1
  refine ⟨l, by rw [h3, h4], ?_, h5⟩
  have hb : Try.prog.bytesOf 27 = 16 := by kernel_rfl
  rw [hb, h4] at h2
  have : reachBytes = 140737488351232 := rfl
  omega
def kLLTBounds (l : List (List TBounds)) : Prop := l.length ≤ 140737488355328 ∧ ∀ x ∈ l, kLTBounds (x)
theorem typ_LLTBounds_32 {n : Nat} {vs : List V} (h : Typ Try.prog (n + 4) 32 vs) : ∃ x : List (List TBounds), vs = [(V.sl (recs (eS eTBounds) (x)) (x).length)] ∧ kLLTBounds (x) := by
  unfold Typ at h
  simp only [Try.underlying32] at h
  obtain ⟨ls, rfl, h1, h2⟩ := h
  obtain ⟨l, h3, h4, h5⟩ := typ_list (enc := (eS eTBounds)) (fun vs hv => typ_LTBounds_50 (n := n) hv) ls h1
  refine ⟨l, by rw [h3, h4], ?_, h5⟩
  have hb : Try.prog.bytesOf 50 = 24 := by kernel_rfl
  rw [hb, h4] at h2
  have : reachBytes = 140737488351232 := rfl
  omega
def kTthalweglaw01_Forecast (x : Tthalweglaw01_Forecast) : Prop := kTRiver (x.River) ∧ kLLTBounds (x.Sides)
theorem typ_Tthalweglaw01_Forecast_34 {n : Nat} {vs : List V} (h : Typ Try.prog (n + 7) 34 vs) : ∃ x : Tthalweglaw01_Forecast, vs = eTthalweglaw01_Forecast x ∧ kTthalweglaw01_Forecast x := by
  unfold Typ at h
  simp only [Try.underlying34] at h
  obtain ⟨ls, rfl, h⟩ := h
  obtain ⟨v0, v1, rfl, h0, h1⟩ := all2_2 h
  obtain ⟨x0, rfl, k0⟩ := typ_TRiver_25 (n := n + 0) h0
  obtain ⟨x1, rfl, k1⟩ := typ_LLTBounds_32 (n := n + 2) h1
  exact ⟨⟨x0, x1⟩, rfl, k0, k1⟩
def kIu16 (i : Int) : Prop := IntKind.u16.min ≤ i ∧ i ≤ IntKind.u16.max
theorem typ_Iu16_105 {n : Nat} {vs : List V} (h : Typ Try.prog (n + 1) 105 vs) : ∃ x : Int, vs = [(V.v (.int .u16 (x)))] ∧ kIu16 (x) := by
  simp only [Typ, Try.underlying105] at h
  obtain ⟨i, rfl, hw⟩ := h
  refine ⟨i, rfl, ?_⟩
  simp only [Lit.wf, Bool.and_eq_true, decide_eq_true_eq] at hw
  exact hw
def kTanon106 (x : Tanon106) : Prop := kIu16 (x.a0) ∧ kIu16 (x.a1) ∧ kIu16 (x.a2)
theorem typ_Tanon106_106 {n : Nat} {vs : List V} (h : Typ Try.prog (n + 2) 106 vs) : ∃ x : Tanon106, vs = eTanon106 x ∧ kTanon106 x := by
  unfold Typ at h
  simp only [Try.underlying106] at h
  obtain ⟨ls, rfl, hl, h⟩ := h
  match ls, hl with
  | [v0, v1, v2], _ =>
    obtain ⟨x0, rfl, k0⟩ := typ_Iu16_105 (n := n + 0) (h v0 (by simp))
    obtain ⟨x1, rfl, k1⟩ := typ_Iu16_105 (n := n + 0) (h v1 (by simp))
    obtain ⟨x2, rfl, k2⟩ := typ_Iu16_105 (n := n + 0) (h v2 (by simp))
    exact ⟨⟨x0, x1, x2⟩, rfl, k0, k1, k2⟩
end Go.Ev
/- Tests that are decided by other tests. -/
namespace Go.Ev
theorem eqT_ne {α : Type} [BEq α] {a b : α} (h : (a == b) = true) : (a != b) = false := by rw [bne, h]; rfl
theorem eqF_ne {α : Type} [BEq α] {a b : α} (h : (a == b) = false) : (a != b) = true := by rw [bne, h]; rfl
theorem neT_eq {α : Type} [BEq α] {a b : α} (h : (a != b) = true) : (a == b) = false := by
  unfold bne at h; cases e : (a == b) with
  | true => rw [e] at h; cases h
  | false => rfl
theorem neF_eq {α : Type} [BEq α] {a b : α} (h : (a != b) = false) : (a == b) = true := by
  unfold bne at h; cases e : (a == b) with
  | true => rfl
  | false => rw [e] at h; cases h
end Go.Ev
/- The functions do what is said. -/
set_option linter.unusedVariables false
set_option linter.unusedSimpArgs false
namespace Go.Ev
open Go.Proofs
set_option maxHeartbeats 1000000
set_option maxRecDepth 100000
theorem mix : Try.prog.follows .mixedOrders = true := by kernel_rfl
@[reducible] noncomputable def c_thalweglaw01_large : Con := conF F_thalweglaw01_large (fun x => match x with | (a0) => [(V.agg (eTthalweglaw01_Forecast a0))]) (fun r => (V.v (.bool (r))))
theorem h_thalweglaw01_large : Has Try.prog 16 c_thalweglaw01_large := by
  refine hasF ctx_nil mix Try.func16 rfl (by kernel_rfl) ?_
  rintro a0 r hF
  refine ⟨of_decide_eq_true rfl, ?_⟩
  refine st1 ?_
  rcases e_bif hF with ⟨hb, hF⟩ | ⟨hb, hF⟩ <;> rw [hb]
  · refine st1 ?_
    have hq : some _ = some _ := hF
    cases hq
    exact en1
  · refine st1 ?_
    rcases e_bif hF with ⟨hb, hF⟩ | ⟨hb, hF⟩ <;> rw [hb]
    · refine st1 ?_
      have hq : some _ = some _ := hF
      cases hq
      exact en1
    · refine st1 ?_
      rcases e_bif hF with ⟨hb, hF⟩ | ⟨hb, hF⟩ <;> rw [hb]
      · refine st1 ?_
        have hq : some _ = some _ := hF
        cases hq
        exact en1
      · refine st1 ?_
        refine st_loopF (e_assoc hF) () [(0, _)] ⟨sT, sS, by rfl, by rfl⟩ ?_
        · rintro n _ _ x hx1 hF
          (conv => arg 7; whnf); (conv => arg 8; whnf); (conv => arg 9; whnf)
          refine st1 ?_
          rcases e_bif hF with ⟨hb, hF⟩ | ⟨hb, hF⟩ <;> rw [hb]
          · refine st1 ?_
            obtain ⟨_, h, hF⟩ := e_bind hF
            (first | refine o_ia (enc := eTReach) (s := 9) h (fun _ => rfl) (by decide) ?_ | refine o_iaT (enc := eTReach) (s := 9) h (fun _ => rfl) (by decide) ?_)
            intro _
            refine st1 ?_
            rcases e_bif hF with ⟨hb, hF⟩ | ⟨hb, hF⟩ <;> rw [hb]
            · refine st1 ?_
              have hF := e_some hF
              have hq : some _ = some _ := hF
              cases hq
              exact en1
            · refine st1 ?_
              exact k_loopF (e_some hF) hx1 () [(0, _)] ⟨sT, sS, by rfl, by rfl⟩
          · refine st1 ?_
            have hF := e_some hF
            refine st_loopF (e_assoc hF) () [(0, _)] ⟨sT, sS, by rfl, by rfl⟩ ?_
            · rintro n _ _ x hx1 hF
              (conv => arg 7; whnf); (conv => arg 8; whnf); (conv => arg 9; whnf)
              refine st1 ?_
              rcases e_bif hF with ⟨hb, hF⟩ | ⟨hb, hF⟩ <;> rw [hb]
              · refine st1 ?_
                obtain ⟨_, h, hF⟩ := e_bind hF
                (first | refine o_ia (enc := (eS eTBounds)) (s := 1) h (fun _ => rfl) (by decide) ?_ | refine o_iaT (enc := (eS eTBounds)) (s := 1) h (fun _ => rfl) (by decide) ?_)
                intro _
                refine st1 ?_
                rcases e_bif hF with ⟨hb, hF⟩ | ⟨hb, hF⟩ <;> rw [hb]
                · refine st1 ?_
                  have hF := e_some hF
                  have hq : some _ = some _ := hF
                  cases hq
                  exact en1
                · refine st1 ?_
                  exact k_loopF (e_some hF) hx1 () [(0, _)] ⟨sT, sS, by rfl, by rfl⟩
              · refine st1 ?_
                have hF := e_some hF
                have hq : some _ = some _ := hF
                cases hq
                exact en1


@[reducible] noncomputable def c_thalweglaw01_copied : Con := conF F_thalweglaw01_copied (fun x => match x with | (a0) => [(V.agg (eTRiver a0))]) (fun r => (V.agg (eTRiver r)))
theorem h_thalweglaw01_copied : Has Try.prog 18 c_thalweglaw01_copied := by
  refine hasF ctx_nil mix Try.func18 rfl (by kernel_rfl) ?_
  rintro a0 r hF
  refine ⟨of_decide_eq_true rfl, ?_⟩
  refine st1 ?_
  refine st_loopF (e_assoc hF) () [(0, _), (1, _), (2, _)] ⟨sT, sS, by rfl, by rfl⟩ ?_
  · rintro n ⟨_, _⟩ _ x hx1 hF
    (conv => arg 7; whnf); (conv => arg 8; whnf); (conv => arg 9; whnf)
    refine st1 ?_
    rcases e_bif hF with ⟨hb, hF⟩ | ⟨hb, hF⟩ <;> rw [hb]
    · refine st1 ?_
      obtain ⟨_, h, hF⟩ := e_bind hF
      (first | refine o_ia (enc := eTReach) (s := 9) h (fun _ => rfl) (by decide) ?_ | refine o_iaT (enc := eTReach) (s := 9) h (fun _ => rfl) (by decide) ?_)
      intro _
      refine st1 ?_
      obtain ⟨_, h, hF⟩ := e_bind hF
      (first | refine o_app (enc := eTRateRow) (s := 2) h (fun _ => rfl) ?_ | refine o_appT (enc := eTRateRow) (s := 2) h (fun _ => rfl) ?_)
      refine st1 ?_
      obtain ⟨_, h, hF⟩ := e_bind hF
      (first | refine o_app (enc := eTReach) (s := 9) h (fun _ => rfl) ?_ | refine o_appT (enc := eTReach) (s := 9) h (fun _ => rfl) ?_)
      refine st1 ?_
      exact k_loopF (e_some hF) hx1 () [(0, _), (1, _), (2, _)] ⟨sT, sS, by rfl, by rfl⟩
    · refine st1 ?_
      have hF := e_some hF
      obtain ⟨_, h, hF⟩ := e_bind hF
      (first | refine o_app (enc := eTShoal) (s := 6) h (fun _ => rfl) ?_ | refine o_appT (enc := eTShoal) (s := 6) h (fun _ => rfl) ?_)
      refine st1 ?_
      have hq : some _ = some _ := hF
      cases hq
      exact en1


@[reducible] noncomputable def c_thalweglaw01_forecast : Con := conF F_thalweglaw01_forecast (fun x => match x with | (a0) => [(V.sl (recs (eS eTBounds) (a0)) (a0).length)]) (fun r => (V.sl (recs (eS eTBounds) (r)) (r).length))
theorem h_thalweglaw01_forecast : Has Try.prog 30 c_thalweglaw01_forecast := by
  refine hasF ctx_nil mix Try.func30 rfl (by kernel_rfl) ?_
  rintro a0 r hF
  refine ⟨of_decide_eq_true rfl, ?_⟩
  refine st1 ?_
  refine st_loopF (e_assoc hF) () [(1, _)] ⟨sT, sS, by rfl, by rfl⟩ ?_
  · rintro n ⟨_, _⟩ _ x hx1 hF
    (conv => arg 7; whnf); (conv => arg 8; whnf); (conv => arg 9; whnf)
    refine st1 ?_
    rcases e_bif hF with ⟨hb, hF⟩ | ⟨hb, hF⟩ <;> rw [hb]
    · refine st1 ?_
      obtain ⟨_, h, hF⟩ := e_bind hF
      (first | refine o_ia (enc := (eS eTBounds)) (s := 1) h (fun _ => rfl) (by decide) ?_ | refine o_iaT (enc := (eS eTBounds)) (s := 1) h (fun _ => rfl) (by decide) ?_)
      intro _
      refine st1 ?_
      obtain ⟨_, h, hF⟩ := e_bind hF
      (first | refine o_app (enc := eTBounds) (s := 2) h (fun _ => rfl) ?_ | refine o_appT (enc := eTBounds) (s := 2) h (fun _ => rfl) ?_)
      refine st1 ?_
      obtain ⟨_, h, hF⟩ := e_bind hF
      (first | refine o_app (enc := (eS eTBounds)) (s := 1) h (fun _ => rfl) ?_ | refine o_appT (enc := (eS eTBounds)) (s := 1) h (fun _ => rfl) ?_)
      refine st1 ?_
      exact k_loopF (e_some hF) hx1 () [(1, _)] ⟨sT, sS, by rfl, by rfl⟩
    · refine st1 ?_
      have hF := e_some hF
      have hq : some _ = some _ := hF
      cases hq
      exact en1


@[reducible] noncomputable def c_thalwegref01_In : Con := conF F_thalwegref01_In (fun x => match x with | (a0, a1, a2) => [(V.v (.int .i64 (a0))), (V.v (.int .i64 (a1))), (V.v (.int .i64 (a2)))]) (fun r => (V.v (.bool (r))))
theorem h_thalwegref01_In : Has Try.prog 37 c_thalwegref01_In := by
  refine hasF ctx_nil mix Try.func37 rfl (by kernel_rfl) ?_
  rintro ⟨a0, a1, a2⟩ r hF
  refine ⟨of_decide_eq_true rfl, ?_⟩
  refine st1 ?_
  rcases e_bif hF with ⟨hb, hF⟩ | ⟨hb, hF⟩ <;> rw [hb]
  · refine st1 ?_
    have hq : some _ = some _ := hF
    cases hq
    exact en1
  · refine st1 ?_
    have hq : some _ = some _ := hF
    cases hq
    exact en1


@[reducible] noncomputable def c_thalwegref01_Valid : Con := conF F_thalwegref01_Valid (fun x => match x with | (a0, a1, a2) => [(V.agg (eTBounds a0)), (V.v (.int .i64 (a1))), (V.v (.int .i64 (a2)))]) (fun r => (V.v (.bool (r))))
theorem h_thalwegref01_Valid : Has Try.prog 24 c_thalwegref01_Valid := by
  refine hasF (ctx_cons h_thalwegref01_In ctx_nil) mix Try.func24 rfl (by kernel_rfl) ?_
  rintro ⟨a0, a1, a2⟩ r hF
  refine ⟨of_decide_eq_true rfl, ?_⟩
  refine st1 ?_
  obtain ⟨_, h, hF⟩ := e_bind hF
  (first | refine g_call h lv1 ?_ | refine g_callT h lv1 ?_)
  (conv => arg 1; whnf)
  refine st1 ?_
  rcases e_bif hF with ⟨hb, hF⟩ | ⟨hb, hF⟩ <;> rw [hb]
  · refine st1 ?_
    obtain ⟨_, h, hF⟩ := e_bind hF
    (first | refine g_call h lv1 ?_ | refine g_callT h lv1 ?_)
    (conv => arg 1; whnf)
    refine st1 ?_
    have hq : some _ = some _ := hF
    cases hq
    exact en1
  · refine st1 ?_
    have hq : some _ = some _ := hF
    cases hq
    exact en1


@[reducible] noncomputable def c_thalwegref01_Reach : Con := conF F_thalwegref01_Reach (fun x => match x with | (a0) => [(V.agg (eTReach a0))]) (fun r => (V.v (.bool (r))))
theorem h_thalwegref01_Reach : Has Try.prog 23 c_thalwegref01_Reach := by
  refine hasF (ctx_cons h_thalwegref01_In (ctx_cons h_thalwegref01_Valid ctx_nil)) mix Try.func23 rfl (by kernel_rfl) ?_
  rintro a0 r hF
  refine ⟨of_decide_eq_true rfl, ?_⟩
  refine st1 ?_
  obtain ⟨_, h, hF⟩ := e_bind hF
  (first | refine g_call h lv1 ?_ | refine g_callT h lv1 ?_)
  (conv => arg 1; whnf)
  refine st1 ?_
  rcases e_bif hF with ⟨hb, hF⟩ | ⟨hb, hF⟩ <;> rw [hb]
  · refine st1 ?_
    have hq : some _ = some _ := hF
    cases hq
    exact en1
  · refine st1 ?_
    obtain ⟨_, h, hF⟩ := e_bind hF
    (first | refine g_call h lv1 ?_ | refine g_callT h lv1 ?_)
    (conv => arg 1; whnf)
    refine st1 ?_
    rcases e_bif hF with ⟨hb, hF⟩ | ⟨hb, hF⟩ <;> rw [hb]
    · refine st1 ?_
      have hq : some _ = some _ := hF
      cases hq
      exact en1
    · refine st1 ?_
      obtain ⟨_, h, hF⟩ := e_bind hF
      (first | refine g_call h lv1 ?_ | refine g_callT h lv1 ?_)
      (conv => arg 1; whnf)
      refine st1 ?_
      rcases e_bif hF with ⟨hb, hF⟩ | ⟨hb, hF⟩ <;> rw [hb]
      · refine st1 ?_
        have hq : some _ = some _ := hF
        cases hq
        exact en1
      · refine st1 ?_
        obtain ⟨_, h, hF⟩ := e_bind hF
        (first | refine g_call h lv1 ?_ | refine g_callT h lv1 ?_)
        (conv => arg 1; whnf)
        refine st1 ?_
        rcases e_bif hF with ⟨hb, hF⟩ | ⟨hb, hF⟩ <;> rw [hb]
        · refine st1 ?_
          have hq : some _ = some _ := hF
          cases hq
          exact en1
        · refine st1 ?_
          obtain ⟨_, h, hF⟩ := e_bind hF
          (first | refine g_call h lv1 ?_ | refine g_callT h lv1 ?_)
          (conv => arg 1; whnf)
          refine st1 ?_
          rcases e_bif hF with ⟨hb, hF⟩ | ⟨hb, hF⟩ <;> rw [hb]
          · refine st1 ?_
            have hq : some _ = some _ := hF
            cases hq
            exact en1
          · refine st1 ?_
            obtain ⟨_, h, hF⟩ := e_bind hF
            (first | refine g_call h lv1 ?_ | refine g_callT h lv1 ?_)
            (conv => arg 1; whnf)
            refine st1 ?_
            rcases e_bif hF with ⟨hb, hF⟩ | ⟨hb, hF⟩ <;> rw [hb]
            · refine st1 ?_
              have hq : some _ = some _ := hF
              cases hq
              exact en1
            · refine st1 ?_
              obtain ⟨_, h, hF⟩ := e_bind hF
              (first | refine g_call h lv1 ?_ | refine g_callT h lv1 ?_)
              (conv => arg 1; whnf)
              refine st1 ?_
              rcases e_bif hF with ⟨hb, hF⟩ | ⟨hb, hF⟩ <;> rw [hb]
              · refine st1 ?_
                have hq : some _ = some _ := hF
                cases hq
                exact en1
              · refine st1 ?_
                refine st_loopF (e_assoc hF) () [(0, _)] ⟨sT, sS, by rfl, by rfl⟩ ?_
                · rintro n _ _ x hx1 hF
                  (conv => arg 7; whnf); (conv => arg 8; whnf); (conv => arg 9; whnf)
                  refine st1 ?_
                  rcases e_bif hF with ⟨hb, hF⟩ | ⟨hb, hF⟩ <;> rw [hb]
                  · refine st1 ?_
                    obtain ⟨_, h, hF⟩ := e_bind hF
                    (first | refine o_ia (enc := eTRateRow) (s := 2) h (fun _ => rfl) (by decide) ?_ | refine o_iaT (enc := eTRateRow) (s := 2) h (fun _ => rfl) (by decide) ?_)
                    intro _
                    refine st1 ?_
                    obtain ⟨_, h, hF⟩ := e_bind hF
                    (first | refine g_call h lv1 ?_ | refine g_callT h lv1 ?_)
                    (conv => arg 1; whnf)
                    refine st1 ?_
                    rcases e_bif hF with ⟨hb, hF⟩ | ⟨hb, hF⟩ <;> rw [hb]
                    · refine st1 ?_
                      have hF := e_some hF
                      have hq : some _ = some _ := hF
                      cases hq
                      exact en1
                    · refine st1 ?_
                      obtain ⟨_, h, hF⟩ := e_bind hF
                      (first | refine o_ia (enc := eTRateRow) (s := 2) h (fun _ => rfl) (by decide) ?_ | refine o_iaT (enc := eTRateRow) (s := 2) h (fun _ => rfl) (by decide) ?_)
                      intro _
                      refine st1 ?_
                      obtain ⟨_, h, hF⟩ := e_bind hF
                      (first | refine g_call h lv1 ?_ | refine g_callT h lv1 ?_)
                      (conv => arg 1; whnf)
                      refine st1 ?_
                      rcases e_bif hF with ⟨hb, hF⟩ | ⟨hb, hF⟩ <;> rw [hb]
                      · refine st1 ?_
                        have hF := e_some hF
                        have hq : some _ = some _ := hF
                        cases hq
                        exact en1
                      · refine st1 ?_
                        rcases e_bif hF with ⟨hb, hF⟩ | ⟨hb, hF⟩ <;> rw [hb]
                        · refine st1 ?_
                          obtain ⟨_, h, hF⟩ := e_bind hF
                          (first | refine o_ia (enc := eTRateRow) (s := 2) h (fun _ => rfl) (by decide) ?_ | refine o_iaT (enc := eTRateRow) (s := 2) h (fun _ => rfl) (by decide) ?_)
                          intro _
                          refine st1 ?_
                          obtain ⟨_, h, hF⟩ := e_bind hF
                          (first | refine o_ia (enc := eTRateRow) (s := 2) h (fun _ => rfl) (by decide) ?_ | refine o_iaT (enc := eTRateRow) (s := 2) h (fun _ => rfl) (by decide) ?_)
                          intro _
                          refine st1 ?_
                          rcases e_bif hF with ⟨hb, hF⟩ | ⟨hb, hF⟩ <;> rw [hb]
                          · refine st1 ?_
                            have hF := e_some hF
                            have hq : some _ = some _ := hF
                            cases hq
                            exact en1
                          · refine st1 ?_
                            obtain ⟨_, h, hF⟩ := e_bind hF
                            (first | refine o_ia (enc := eTRateRow) (s := 2) h (fun _ => rfl) (by decide) ?_ | refine o_iaT (enc := eTRateRow) (s := 2) h (fun _ => rfl) (by decide) ?_)
                            intro _
                            refine st1 ?_
                            obtain ⟨_, h, hF⟩ := e_bind hF
                            (first | refine o_ia (enc := eTRateRow) (s := 2) h (fun _ => rfl) (by decide) ?_ | refine o_iaT (enc := eTRateRow) (s := 2) h (fun _ => rfl) (by decide) ?_)
                            intro _
                            refine st1 ?_
                            rcases e_bif hF with ⟨hb, hF⟩ | ⟨hb, hF⟩ <;> rw [hb]
                            · refine st1 ?_
                              have hF := e_some hF
                              have hq : some _ = some _ := hF
                              cases hq
                              exact en1
                            · refine st1 ?_
                              exact k_loopF (e_some hF) hx1 () [(0, _)] ⟨sT, sS, by rfl, by rfl⟩
                        · refine st1 ?_
                          exact k_loopF (e_some hF) hx1 () [(0, _)] ⟨sT, sS, by rfl, by rfl⟩
                  · refine st1 ?_
                    have hF := e_some hF
                    have hq : some _ = some _ := hF
                    cases hq
                    exact en1


@[reducible] noncomputable def c_thalwegref01_Places : Con := conF F_thalwegref01_Places (fun x => match x with | (a0) => [(V.agg (eTRiver a0))]) (fun r => (V.v (.int .i64 (r))))
theorem h_thalwegref01_Places : Has Try.prog 41 c_thalwegref01_Places := by
  refine hasF ctx_nil mix Try.func41 rfl (by kernel_rfl) ?_
  rintro a0 r hF
  refine ⟨of_decide_eq_true rfl, ?_⟩
  refine st1 ?_
  refine st_loopF (e_assoc hF) () [(0, _)] ⟨sT, sS, by rfl, by rfl⟩ ?_
  · rintro n ⟨_, _⟩ _ x hx1 hF
    (conv => arg 7; whnf); (conv => arg 8; whnf); (conv => arg 9; whnf)
    refine st1 ?_
    rcases e_bif hF with ⟨hb, hF⟩ | ⟨hb, hF⟩ <;> rw [hb]
    · refine st1 ?_
      obtain ⟨_, h, hF⟩ := e_bind hF
      (first | refine o_ia (enc := eTReach) (s := 9) h (fun _ => rfl) (by decide) ?_ | refine o_iaT (enc := eTReach) (s := 9) h (fun _ => rfl) (by decide) ?_)
      intro _
      refine st1 ?_
      exact k_loopF (e_some hF) hx1 () [(0, _)] ⟨sT, sS, by rfl, by rfl⟩
    · refine st1 ?_
      have hF := e_some hF
      have hq : some _ = some _ := hF
      cases hq
      exact en1


@[reducible] noncomputable def c_thalwegref01_River : Con := conF F_thalwegref01_River (fun x => match x with | (a0) => [(V.agg (eTRiver a0))]) (fun r => (V.v (.bool (r))))
theorem h_thalwegref01_River : Has Try.prog 20 c_thalwegref01_River := by
  refine hasF (ctx_cons h_thalwegref01_Places (ctx_cons h_thalwegref01_In (ctx_cons h_thalwegref01_Valid (ctx_cons h_thalwegref01_Reach ctx_nil)))) mix Try.func20 rfl (by kernel_rfl) ?_
  rintro a0 r hF
  refine ⟨of_decide_eq_true rfl, ?_⟩
  refine st1 ?_
  obtain ⟨_, h, hF⟩ := e_bind hF
  (first | refine g_call h lv1 ?_ | refine g_callT h lv1 ?_)
  (conv => arg 1; whnf)
  refine st1 ?_
  rcases e_bif hF with ⟨hb, hF⟩ | ⟨hb, hF⟩ <;> rw [hb]
  · refine st1 ?_
    have hq : some _ = some _ := hF
    cases hq
    exact en1
  · refine st1 ?_
    rcases e_bif hF with ⟨hb, hF⟩ | ⟨hb, hF⟩ <;> rw [hb]
    · refine st1 ?_
      have hq : some _ = some _ := hF
      cases hq
      exact en1
    · refine st1 ?_
      refine st_loopF (e_assoc hF) () [(0, _)] ⟨sT, sS, by rfl, by rfl⟩ ?_
      · rintro n _ _ x hx1 hF
        (conv => arg 7; whnf); (conv => arg 8; whnf); (conv => arg 9; whnf)
        refine st1 ?_
        rcases e_bif hF with ⟨hb, hF⟩ | ⟨hb, hF⟩ <;> rw [hb]
        · refine st1 ?_
          obtain ⟨_, h, hF⟩ := e_bind hF
          (first | refine o_ia (enc := eTReach) (s := 9) h (fun _ => rfl) (by decide) ?_ | refine o_iaT (enc := eTReach) (s := 9) h (fun _ => rfl) (by decide) ?_)
          intro _
          refine st1 ?_
          obtain ⟨_, h, hF⟩ := e_bind hF
          (first | refine g_call h lv1 ?_ | refine g_callT h lv1 ?_)
          (conv => arg 1; whnf)
          refine st1 ?_
          rcases e_bif hF with ⟨hb, hF⟩ | ⟨hb, hF⟩ <;> rw [hb]
          · refine st1 ?_
            have hF := e_some hF
            have hq : some _ = some _ := hF
            cases hq
            exact en1
          · refine st1 ?_
            exact k_loopF (e_some hF) hx1 () [(0, _)] ⟨sT, sS, by rfl, by rfl⟩
        · refine st1 ?_
          have hF := e_some hF
          refine st_loopF (e_assoc hF) () [(0, _)] ⟨sT, sS, by rfl, by rfl⟩ ?_
          · rintro n _ _ x hx1 hF
            (conv => arg 7; whnf); (conv => arg 8; whnf); (conv => arg 9; whnf)
            refine st1 ?_
            rcases e_bif hF with ⟨hb, hF⟩ | ⟨hb, hF⟩ <;> rw [hb]
            · refine st1 ?_
              obtain ⟨_, h, hF⟩ := e_bind hF
              (first | refine o_ia (enc := eTShoal) (s := 6) h (fun _ => rfl) (by decide) ?_ | refine o_iaT (enc := eTShoal) (s := 6) h (fun _ => rfl) (by decide) ?_)
              intro _
              refine st1 ?_
              obtain ⟨_, h, hF⟩ := e_bind hF
              (first | refine g_call h lv1 ?_ | refine g_callT h lv1 ?_)
              (conv => arg 1; whnf)
              refine st1 ?_
              obtain ⟨_, h, hF⟩ := e_bind hF
              (first | refine g_call h lv1 ?_ | refine g_callT h lv1 ?_)
              (conv => arg 1; whnf)
              refine st1 ?_
              rcases e_bif hF with ⟨hb, hF⟩ | ⟨hb, hF⟩ <;> rw [hb]
              · refine st1 ?_
                have hF := e_some hF
                have hq : some _ = some _ := hF
                cases hq
                exact en1
              · refine st1 ?_
                obtain ⟨_, h, hF⟩ := e_bind hF
                (first | refine g_call h lv1 ?_ | refine g_callT h lv1 ?_)
                (conv => arg 1; whnf)
                refine st1 ?_
                rcases e_bif hF with ⟨hb, hF⟩ | ⟨hb, hF⟩ <;> rw [hb]
                · refine st1 ?_
                  have hF := e_some hF
                  have hq : some _ = some _ := hF
                  cases hq
                  exact en1
                · refine st1 ?_
                  obtain ⟨_, h, hF⟩ := e_bind hF
                  (first | refine g_call h lv1 ?_ | refine g_callT h lv1 ?_)
                  (conv => arg 1; whnf)
                  refine st1 ?_
                  rcases e_bif hF with ⟨hb, hF⟩ | ⟨hb, hF⟩ <;> rw [hb]
                  · refine st1 ?_
                    have hF := e_some hF
                    have hq : some _ = some _ := hF
                    cases hq
                    exact en1
                  · refine st1 ?_
                    obtain ⟨_, h, hF⟩ := e_bind hF
                    (first | refine g_call h lv1 ?_ | refine g_callT h lv1 ?_)
                    (conv => arg 1; whnf)
                    refine st1 ?_
                    rcases e_bif hF with ⟨hb, hF⟩ | ⟨hb, hF⟩ <;> rw [hb]
                    · refine st1 ?_
                      have hF := e_some hF
                      have hq : some _ = some _ := hF
                      cases hq
                      exact en1
                    · refine st1 ?_
                      exact k_loopF (e_some hF) hx1 () [(0, _)] ⟨sT, sS, by rfl, by rfl⟩
            · refine st1 ?_
              have hF := e_some hF
              have hq : some _ = some _ := hF
              cases hq
              exact en1


@[reducible] noncomputable def c_thalwegref01_Start : Con := conF F_thalwegref01_Start (fun x => match x with | (a0, a1) => [(V.agg (eTRiver a0)), (V.sl (recs (eS eTBounds) (a1)) (a1).length)]) (fun r => (V.v (.int .i64 (r))))
theorem h_thalwegref01_Start : Has Try.prog 34 c_thalwegref01_Start := by
  refine hasF (ctx_cons h_thalwegref01_Valid (ctx_cons h_thalwegref01_River ctx_nil)) mix Try.func34 rfl (by kernel_rfl) ?_
  rintro ⟨a0, a1⟩ r hF
  refine ⟨of_decide_eq_true rfl, ?_⟩
  refine st1 ?_
  obtain ⟨_, h, hF⟩ := e_bind hF
  (first | refine g_call h lv1 ?_ | refine g_callT h lv1 ?_)
  (conv => arg 1; whnf)
  refine st1 ?_
  rcases e_bif hF with ⟨hb, hF⟩ | ⟨hb, hF⟩ <;> rw [hb]
  · refine st1 ?_
    have hq : some _ = some _ := hF
    cases hq
    exact en1
  · refine st1 ?_
    rcases e_bif hF with ⟨hb, hF⟩ | ⟨hb, hF⟩ <;> rw [hb]
    · refine st1 ?_
      have hq : some _ = some _ := hF
      cases hq
      exact en1
    · refine st1 ?_
      obtain ⟨_, h, hF⟩ := e_bind hF
      (first | refine o_ia (enc := (eS eTBounds)) (s := 1) h (fun _ => rfl) (by decide) ?_ | refine o_iaT (enc := (eS eTBounds)) (s := 1) h (fun _ => rfl) (by decide) ?_)
      intro _
      refine st1 ?_
      rcases e_bif hF with ⟨hb, hF⟩ | ⟨hb, hF⟩ <;> rw [hb]
      · refine st1 ?_
        have hq : some _ = some _ := hF
        cases hq
        exact en1
      · refine st1 ?_
        refine st_loopF (e_assoc hF) () [] ⟨sT, sS, by rfl, by rfl⟩ ?_
        · rintro n _ _ x hx1 hF
          (conv => arg 7; whnf); (conv => arg 8; whnf); (conv => arg 9; whnf)
          refine st1 ?_
          rcases e_bif hF with ⟨hb, hF⟩ | ⟨hb, hF⟩ <;> rw [hb]
          · refine st1 ?_
            obtain ⟨_, h, hF⟩ := e_bind hF
            (first | refine o_ia (enc := (eS eTBounds)) (s := 1) h (fun _ => rfl) (by decide) ?_ | refine o_iaT (enc := (eS eTBounds)) (s := 1) h (fun _ => rfl) (by decide) ?_)
            intro _
            refine st1 ?_
            obtain ⟨_, h, hF⟩ := e_bind hF
            (first | refine o_ia (enc := (eS eTBounds)) (s := 1) h (fun _ => rfl) (by decide) ?_ | refine o_iaT (enc := (eS eTBounds)) (s := 1) h (fun _ => rfl) (by decide) ?_)
            intro _
            refine st1 ?_
            rcases e_bif hF with ⟨hb, hF⟩ | ⟨hb, hF⟩ <;> rw [hb]
            · refine st1 ?_
              have hF := e_some hF
              have hq : some _ = some _ := hF
              cases hq
              exact en1
            · refine st1 ?_
              exact k_loopF (e_some hF) hx1 () [] ⟨sT, sS, by rfl, by rfl⟩
          · refine st1 ?_
            have hF := e_some hF
            obtain ⟨_, h, hF⟩ := e_bind hF
            (first | refine o_ia (enc := (eS eTBounds)) (s := 1) h (fun _ => rfl) (by decide) ?_ | refine o_iaT (enc := (eS eTBounds)) (s := 1) h (fun _ => rfl) (by decide) ?_)
            intro _
            refine st1 ?_
            rcases e_bif hF with ⟨hb, hF⟩ | ⟨hb, hF⟩ <;> rw [hb]
            · refine st1 ?_
              have hq : some _ = some _ := hF
              cases hq
              exact en1
            · refine st1 ?_
              refine st_loopF (e_assoc hF) () [] ⟨sT, sS, by rfl, by rfl⟩ ?_
              · rintro n _ _ x hx1 hF
                (conv => arg 7; whnf); (conv => arg 8; whnf); (conv => arg 9; whnf)
                refine st1 ?_
                rcases e_bif hF with ⟨hb, hF⟩ | ⟨hb, hF⟩ <;> rw [hb]
                · refine st1 ?_
                  refine st_loopF (e_assoc hF) () [] ⟨sT, sS, by rfl, by rfl⟩ ?_
                  · rintro n _ _ x hx2 hF
                    (conv => arg 7; whnf); (conv => arg 8; whnf); (conv => arg 9; whnf)
                    refine st1 ?_
                    obtain ⟨_, h, hF⟩ := e_bind hF
                    (first | refine o_ia (enc := (eS eTBounds)) (s := 1) h (fun _ => rfl) (by decide) ?_ | refine o_iaT (enc := (eS eTBounds)) (s := 1) h (fun _ => rfl) (by decide) ?_)
                    intro _
                    refine st1 ?_
                    rcases e_bif hF with ⟨hb, hF⟩ | ⟨hb, hF⟩ <;> rw [hb]
                    · refine st1 ?_
                      obtain ⟨_, h, hF⟩ := e_bind hF
                      (first | refine o_ia (enc := (eS eTBounds)) (s := 1) h (fun _ => rfl) (by decide) ?_ | refine o_iaT (enc := (eS eTBounds)) (s := 1) h (fun _ => rfl) (by decide) ?_)
                      intro _
                      refine st1 ?_
                      obtain ⟨_, h, hF⟩ := e_bind hF
                      (first | refine o_ia (enc := eTBounds) (s := 2) h (fun _ => rfl) (by decide) ?_ | refine o_iaT (enc := eTBounds) (s := 2) h (fun _ => rfl) (by decide) ?_)
                      intro _
                      refine st1 ?_
                      obtain ⟨_, h, hF⟩ := e_bind hF
                      (first | refine g_call h lv1 ?_ | refine g_callT h lv1 ?_)
                      (conv => arg 1; whnf)
                      refine st1 ?_
                      rcases e_bif hF with ⟨hb, hF⟩ | ⟨hb, hF⟩ <;> rw [hb]
                      · refine st1 ?_
                        have hF := e_some hF
                        have hF := e_some hF
                        have hq : some _ = some _ := hF
                        cases hq
                        exact en1
                      · refine st1 ?_
                        exact k_loopF (e_some hF) hx2 () [] ⟨sT, sS, by rfl, by rfl⟩
                    · refine st1 ?_
                      have hF := e_some hF
                      exact k_loopF (e_some hF) hx1 () [] ⟨sT, sS, by rfl, by rfl⟩
                · refine st1 ?_
                  have hF := e_some hF
                  have hq : some _ = some _ := hF
                  cases hq
                  exact en1


@[reducible] noncomputable def c_numbers_Every_int (C : FuncId → Option Con) : Con := conK F_numbers_Every_int (fun x => match x with | (a0, a1, g, caps) => [(V.sl (recs (eI .i64) (a0)) (a0).length), (V.fn g caps)]) (fun x => match x with | (a0, a1, g, caps) => Callable (ext C []) g caps (fun x => match x with | (q0) => [(V.v (.int .i64 (q0)))]) (fun r => (V.v (.bool (r)))) a1) (fun r => (V.v (.bool (r))))
theorem h_numbers_Every_int {C : FuncId → Option Con} (hC : CtxOK Try.prog C) : Has Try.prog 88 (c_numbers_Every_int C) := by
  refine hasK (ext_nil hC) mix Try.func88 rfl (by kernel_rfl) ?_
  rintro ⟨a0, a1, g, caps⟩ r hcl hF
  obtain ⟨hcaps, c, hc, hce, hcall⟩ := id hcl
  refine ⟨of_decide_eq_true rfl, ?_⟩
  refine st1 ?_
  refine st_loopF (e_assoc hF) () [] ⟨sT, sS, by rfl, by rfl⟩ ?_
  · rintro n _ _ x hx1 hF
    (conv => arg 7; whnf); (conv => arg 8; whnf); (conv => arg 9; whnf)
    refine st1 ?_
    rcases e_bif hF with ⟨hb, hF⟩ | ⟨hb, hF⟩ <;> rw [hb]
    · refine st1 ?_
      obtain ⟨_, h, hF⟩ := e_bind hF
      (first | refine o_ia (enc := (eI .i64)) (s := 1) h (fun _ => rfl) (by decide) ?_ | refine o_iaT (enc := (eI .i64)) (s := 1) h (fun _ => rfl) (by decide) ?_)
      intro _
      refine st1 ?_
      obtain ⟨_, h, hF⟩ := e_bind hF
      rw [hc]
      (conv => arg 1; whnf)
      rw [hce]
      (conv => arg 1; whnf)
      (first | refine go_map hcaps rfl ?_ | refine goT_map hcaps rfl ?_)
      (conv => arg 1; whnf)
      obtain ⟨z, hz1, hz2, hz3⟩ := hcall _ _ h
      (first | refine go_exi z ⟨levs_eq hz1.symm, hz2⟩ ?_ | refine goT_exi z ⟨levs_eq hz1.symm, hz2⟩ ?_)
      rw [hz3]
      (conv => arg 1; whnf)
      refine st1 ?_
      rcases e_bif hF with ⟨hb, hF⟩ | ⟨hb, hF⟩ <;> rw [hb]
      · refine st1 ?_
        have hF := e_some hF
        have hq : some _ = some _ := hF
        cases hq
        exact en1
      · refine st1 ?_
        exact k_loopF (e_some hF) hx1 () [] ⟨sT, sS, by rfl, by rfl⟩
    · refine st1 ?_
      have hF := e_some hF
      have hq : some _ = some _ := hF
      cases hq
      exact en1


@[reducible] noncomputable def c_numbers_Within_1 : Con := conF F_numbers_Within_1 (fun x => match x with | (a0, c0, c1) => [(V.v (.int .i64 (a0))), (V.fptr [(V.v (.int .i64 (c0)))]), (V.fptr [(V.v (.int .i64 (c1)))])]) (fun r => (V.v (.bool (r))))
theorem h_numbers_Within_1 : Has Try.prog 89 c_numbers_Within_1 := by
  refine hasF ctx_nil mix Try.func89 rfl (by kernel_rfl) ?_
  rintro ⟨a0, c0, c1⟩ r hF
  refine ⟨of_decide_eq_true rfl, ?_⟩
  refine st1 ?_
  rcases e_bif hF with ⟨hb, hF⟩ | ⟨hb, hF⟩ <;> rw [hb]
  · refine st1 ?_
    have hq : some _ = some _ := hF
    cases hq
    exact en1
  · refine st1 ?_
    have hq : some _ = some _ := hF
    cases hq
    exact en1


@[reducible] noncomputable def c_numbers_Within : Con := conF F_numbers_Within (fun x => match x with | (a0, a1, a2) => [(V.v (.int .i64 (a0))), (V.v (.int .i64 (a1))), (V.sl (recs (eI .i64) (a2)) (a2).length)]) (fun r => (V.v (.bool (r))))
theorem h_numbers_Within : Has Try.prog 57 c_numbers_Within := by
  refine hasF (ctx_cons (h_numbers_Every_int (ctx_cons h_numbers_Within_1 ctx_nil)) ctx_nil) mix Try.func57 rfl (by kernel_rfl) ?_
  rintro ⟨a0, a1, a2⟩ r hF
  refine ⟨of_decide_eq_true rfl, ?_⟩
  refine st1 ?_
  obtain ⟨_, h, hF⟩ := e_bind hF
  (first | refine g_hcall h lv1 (callable_conF rfl rfl (fun _ => rfl)) ?_ | refine g_hcallT h lv1 (callable_conF rfl rfl (fun _ => rfl)) ?_)
  (conv => arg 1; whnf)
  refine st1 ?_
  have hq : some _ = some _ := hF
  cases hq
  exact en1


@[reducible] noncomputable def c_numbers_Sum : Con := conF F_numbers_Sum (fun x => match x with | (a0) => [(V.sl (recs eTBounds (a0)) (a0).length)]) (fun r => (V.agg (eTBounds r)))
theorem h_numbers_Sum : Has Try.prog 68 c_numbers_Sum := by
  refine hasF ctx_nil mix Try.func68 rfl (by kernel_rfl) ?_
  rintro a0 r hF
  refine ⟨of_decide_eq_true rfl, ?_⟩
  refine st1 ?_
  refine st_loopF (e_assoc hF) () [(0, _), (2, _)] ⟨sT, sS, by rfl, by rfl⟩ ?_
  · rintro n ⟨_, _, _⟩ _ x hx1 hF
    (conv => arg 7; whnf); (conv => arg 8; whnf); (conv => arg 9; whnf)
    refine st1 ?_
    rcases e_bif hF with ⟨hb, hF⟩ | ⟨hb, hF⟩ <;> rw [hb]
    · refine st1 ?_
      obtain ⟨_, h, hF⟩ := e_bind hF
      (first | refine o_ia (enc := eTBounds) (s := 2) h (fun _ => rfl) (by decide) ?_ | refine o_iaT (enc := eTBounds) (s := 2) h (fun _ => rfl) (by decide) ?_)
      intro _
      refine st1 ?_
      exact k_loopF (e_some hF) hx1 () [(0, _), (2, _)] ⟨sT, sS, by rfl, by rfl⟩
    · refine st1 ?_
      have hF := e_some hF
      have hq : some _ = some _ := hF
      cases hq
      exact en1


@[reducible] noncomputable def c_numbers_Every_Reach (C : FuncId → Option Con) : Con := conK F_numbers_Every_Reach (fun x => match x with | (a0, a1, g, caps) => [(V.sl (recs eTReach (a0)) (a0).length), (V.fn g caps)]) (fun x => match x with | (a0, a1, g, caps) => Callable (ext C []) g caps (fun x => match x with | (q0) => [(V.agg (eTReach q0))]) (fun r => (V.v (.bool (r)))) a1) (fun r => (V.v (.bool (r))))
theorem h_numbers_Every_Reach {C : FuncId → Option Con} (hC : CtxOK Try.prog C) : Has Try.prog 58 (c_numbers_Every_Reach C) := by
  refine hasK (ext_nil hC) mix Try.func58 rfl (by kernel_rfl) ?_
  rintro ⟨a0, a1, g, caps⟩ r hcl hF
  obtain ⟨hcaps, c, hc, hce, hcall⟩ := id hcl
  refine ⟨of_decide_eq_true rfl, ?_⟩
  refine st1 ?_
  refine st_loopF (e_assoc hF) () [] ⟨sT, sS, by rfl, by rfl⟩ ?_
  · rintro n _ _ x hx1 hF
    (conv => arg 7; whnf); (conv => arg 8; whnf); (conv => arg 9; whnf)
    refine st1 ?_
    rcases e_bif hF with ⟨hb, hF⟩ | ⟨hb, hF⟩ <;> rw [hb]
    · refine st1 ?_
      obtain ⟨_, h, hF⟩ := e_bind hF
      (first | refine o_ia (enc := eTReach) (s := 9) h (fun _ => rfl) (by decide) ?_ | refine o_iaT (enc := eTReach) (s := 9) h (fun _ => rfl) (by decide) ?_)
      intro _
      refine st1 ?_
      obtain ⟨_, h, hF⟩ := e_bind hF
      rw [hc]
      (conv => arg 1; whnf)
      rw [hce]
      (conv => arg 1; whnf)
      (first | refine go_map hcaps rfl ?_ | refine goT_map hcaps rfl ?_)
      (conv => arg 1; whnf)
      obtain ⟨z, hz1, hz2, hz3⟩ := hcall _ _ h
      (first | refine go_exi z ⟨levs_eq hz1.symm, hz2⟩ ?_ | refine goT_exi z ⟨levs_eq hz1.symm, hz2⟩ ?_)
      rw [hz3]
      (conv => arg 1; whnf)
      refine st1 ?_
      rcases e_bif hF with ⟨hb, hF⟩ | ⟨hb, hF⟩ <;> rw [hb]
      · refine st1 ?_
        have hF := e_some hF
        have hq : some _ = some _ := hF
        cases hq
        exact en1
      · refine st1 ?_
        exact k_loopF (e_some hF) hx1 () [] ⟨sT, sS, by rfl, by rfl⟩
    · refine st1 ?_
      have hF := e_some hF
      have hq : some _ = some _ := hF
      cases hq
      exact en1


@[reducible] noncomputable def c_numbers_Valid : Con := conF F_numbers_Valid (fun x => match x with | (a0, a1, a2) => [(V.agg (eTBounds a0)), (V.v (.int .i64 (a1))), (V.v (.int .i64 (a2)))]) (fun r => (V.v (.bool (r))))
theorem h_numbers_Valid : Has Try.prog 63 c_numbers_Valid := by
  refine hasF (ctx_cons h_numbers_Within ctx_nil) mix Try.func63 rfl (by kernel_rfl) ?_
  rintro ⟨a0, a1, a2⟩ r hF
  refine ⟨of_decide_eq_true rfl, ?_⟩
  refine st1 ?_
  rcases e_bif hF with ⟨hb, hF⟩ | ⟨hb, hF⟩ <;> rw [hb]
  · refine st1 ?_
    obtain ⟨_, h, hF⟩ := e_bind hF
    (first | refine g_call h lv1 ?_ | refine g_callT h lv1 ?_)
    (conv => arg 1; whnf)
    refine st1 ?_
    have hq : some _ = some _ := hF
    cases hq
    exact en1
  · refine st1 ?_
    have hq : some _ = some _ := hF
    cases hq
    exact en1


@[reducible] noncomputable def c_river_validCurve_1 : Con := conF F_river_validCurve_1 (fun x => match x with | (a0, a1) => [(V.agg (eTRateRow a0)), (V.agg (eTRateRow a1))]) (fun r => (V.v (.bool (r))))
theorem h_river_validCurve_1 : Has Try.prog 101 c_river_validCurve_1 := by
  refine hasF ctx_nil mix Try.func101 rfl (by kernel_rfl) ?_
  rintro ⟨a0, a1⟩ r hF
  refine ⟨of_decide_eq_true rfl, ?_⟩
  refine st1 ?_
  rcases e_bif hF with ⟨hb, hF⟩ | ⟨hb, hF⟩ <;> rw [hb]
  · refine st1 ?_
    have hq : some _ = some _ := hF
    cases hq
    exact en1
  · refine st1 ?_
    have hq : some _ = some _ := hF
    cases hq
    exact en1


@[reducible] noncomputable def c_numbers_Every_RateRow (C : FuncId → Option Con) : Con := conK F_numbers_Every_RateRow (fun x => match x with | (a0, a1, g, caps) => [(V.sl (recs eTRateRow (a0)) (a0).length), (V.fn g caps)]) (fun x => match x with | (a0, a1, g, caps) => Callable (ext C []) g caps (fun x => match x with | (q0) => [(V.agg (eTRateRow q0))]) (fun r => (V.v (.bool (r)))) a1) (fun r => (V.v (.bool (r))))
theorem h_numbers_Every_RateRow {C : FuncId → Option Con} (hC : CtxOK Try.prog C) : Has Try.prog 102 (c_numbers_Every_RateRow C) := by
  refine hasK (ext_nil hC) mix Try.func102 rfl (by kernel_rfl) ?_
  rintro ⟨a0, a1, g, caps⟩ r hcl hF
  obtain ⟨hcaps, c, hc, hce, hcall⟩ := id hcl
  refine ⟨of_decide_eq_true rfl, ?_⟩
  refine st1 ?_
  refine st_loopF (e_assoc hF) () [] ⟨sT, sS, by rfl, by rfl⟩ ?_
  · rintro n _ _ x hx1 hF
    (conv => arg 7; whnf); (conv => arg 8; whnf); (conv => arg 9; whnf)
    refine st1 ?_
    rcases e_bif hF with ⟨hb, hF⟩ | ⟨hb, hF⟩ <;> rw [hb]
    · refine st1 ?_
      obtain ⟨_, h, hF⟩ := e_bind hF
      (first | refine o_ia (enc := eTRateRow) (s := 2) h (fun _ => rfl) (by decide) ?_ | refine o_iaT (enc := eTRateRow) (s := 2) h (fun _ => rfl) (by decide) ?_)
      intro _
      refine st1 ?_
      obtain ⟨_, h, hF⟩ := e_bind hF
      rw [hc]
      (conv => arg 1; whnf)
      rw [hce]
      (conv => arg 1; whnf)
      (first | refine go_map hcaps rfl ?_ | refine goT_map hcaps rfl ?_)
      (conv => arg 1; whnf)
      obtain ⟨z, hz1, hz2, hz3⟩ := hcall _ _ h
      (first | refine go_exi z ⟨levs_eq hz1.symm, hz2⟩ ?_ | refine goT_exi z ⟨levs_eq hz1.symm, hz2⟩ ?_)
      rw [hz3]
      (conv => arg 1; whnf)
      refine st1 ?_
      rcases e_bif hF with ⟨hb, hF⟩ | ⟨hb, hF⟩ <;> rw [hb]
      · refine st1 ?_
        have hF := e_some hF
        have hq : some _ = some _ := hF
        cases hq
        exact en1
      · refine st1 ?_
        exact k_loopF (e_some hF) hx1 () [] ⟨sT, sS, by rfl, by rfl⟩
    · refine st1 ?_
      have hF := e_some hF
      have hq : some _ = some _ := hF
      cases hq
      exact en1


@[reducible] noncomputable def c_river_validCurve_2 : Con := conF F_river_validCurve_2 (fun x => match x with | (a0) => [(V.agg (eTRateRow a0))]) (fun r => (V.v (.bool (r))))
theorem h_river_validCurve_2 : Has Try.prog 103 c_river_validCurve_2 := by
  refine hasF (ctx_cons h_numbers_Within ctx_nil) mix Try.func103 rfl (by kernel_rfl) ?_
  rintro a0 r hF
  refine ⟨of_decide_eq_true rfl, ?_⟩
  refine st1 ?_
  obtain ⟨_, h, hF⟩ := e_bind hF
  (first | refine g_call h lv1 ?_ | refine g_callT h lv1 ?_)
  (conv => arg 1; whnf)
  refine st1 ?_
  rcases e_bif hF with ⟨hb, hF⟩ | ⟨hb, hF⟩ <;> rw [hb]
  · refine st1 ?_
    obtain ⟨_, h, hF⟩ := e_bind hF
    (first | refine g_call h lv1 ?_ | refine g_callT h lv1 ?_)
    (conv => arg 1; whnf)
    refine st1 ?_
    have hq : some _ = some _ := hF
    cases hq
    exact en1
  · refine st1 ?_
    have hq : some _ = some _ := hF
    cases hq
    exact en1


@[reducible] noncomputable def c_river_validCurve : Con := conF F_river_validCurve (fun x => match x with | (a0) => [(V.sl (recs eTRateRow (a0)) (a0).length)]) (fun r => (V.v (.bool (r))))
theorem h_river_validCurve : Has Try.prog 90 c_river_validCurve := by
  refine hasF (ctx_cons (h_numbers_Every_RateRow (ctx_cons h_river_validCurve_2 ctx_nil)) (ctx_cons h_river_validCurve_1 (ctx_cons h_numbers_Within ctx_nil))) mix Try.func90 rfl (by kernel_rfl) ?_
  rintro a0 r hF
  refine ⟨of_decide_eq_true rfl, ?_⟩
  refine st1 ?_
  obtain ⟨_, h, hF⟩ := e_bind hF
  (first | refine g_call h lv1 ?_ | refine g_callT h lv1 ?_)
  (conv => arg 1; whnf)
  refine st1 ?_
  rcases e_bif hF with ⟨hb, hF⟩ | ⟨hb, hF⟩ <;> rw [hb]
  · refine st1 ?_
    have hq : some _ = some _ := hF
    cases hq
    exact en1
  · refine st1 ?_
    refine st_loopF (e_assoc hF) () [] ⟨sT, sS, by rfl, by rfl⟩ ?_
    · rintro n _ _ x hx1 hF
      (conv => arg 7; whnf); (conv => arg 8; whnf); (conv => arg 9; whnf)
      refine st1 ?_
      rcases e_bif hF with ⟨hb, hF⟩ | ⟨hb, hF⟩ <;> rw [hb]
      · refine st1 ?_
        obtain ⟨_, h, hF⟩ := e_bind hF
        (first | refine o_ia (enc := eTRateRow) (s := 2) h (fun _ => rfl) (by decide) ?_ | refine o_iaT (enc := eTRateRow) (s := 2) h (fun _ => rfl) (by decide) ?_)
        intro _
        refine st1 ?_
        obtain ⟨_, h, hF⟩ := e_bind hF
        (first | refine o_ia (enc := eTRateRow) (s := 2) h (fun _ => rfl) (by decide) ?_ | refine o_iaT (enc := eTRateRow) (s := 2) h (fun _ => rfl) (by decide) ?_)
        intro _
        refine st1 ?_
        obtain ⟨_, h, hF⟩ := e_bind hF
        (first | refine g_call h lv1 ?_ | refine g_callT h lv1 ?_)
        (conv => arg 1; whnf)
        refine st1 ?_
        rcases e_bif hF with ⟨hb, hF⟩ | ⟨hb, hF⟩ <;> rw [hb]
        · refine st1 ?_
          have hF := e_some hF
          have hq : some _ = some _ := hF
          cases hq
          exact en1
        · refine st1 ?_
          exact k_loopF (e_some hF) hx1 () [] ⟨sT, sS, by rfl, by rfl⟩
      · refine st1 ?_
        have hF := e_some hF
        obtain ⟨_, h, hF⟩ := e_bind hF
        (first | refine g_hcall h lv1 (callable_conF rfl rfl (fun _ => rfl)) ?_ | refine g_hcallT h lv1 (callable_conF rfl rfl (fun _ => rfl)) ?_)
        (conv => arg 1; whnf)
        refine st1 ?_
        have hq : some _ = some _ := hF
        cases hq
        exact en1


@[reducible] noncomputable def c_river_validReach : Con := conF F_river_validReach (fun x => match x with | (a0) => [(V.agg (eTReach a0))]) (fun r => (V.v (.bool (r))))
theorem h_river_validReach : Has Try.prog 59 c_river_validReach := by
  refine hasF (ctx_cons h_river_validCurve (ctx_cons h_numbers_Valid (ctx_cons h_numbers_Within ctx_nil))) mix Try.func59 rfl (by kernel_rfl) ?_
  rintro a0 r hF
  refine ⟨of_decide_eq_true rfl, ?_⟩
  refine st1 ?_
  obtain ⟨_, h, hF⟩ := e_bind hF
  (first | refine g_call h lv1 ?_ | refine g_callT h lv1 ?_)
  (conv => arg 1; whnf)
  refine st1 ?_
  rcases e_bif hF with ⟨hb, hF⟩ | ⟨hb, hF⟩ <;> rw [hb]
  · refine st1 ?_
    obtain ⟨_, h, hF⟩ := e_bind hF
    (first | refine g_call h lv1 ?_ | refine g_callT h lv1 ?_)
    (conv => arg 1; whnf)
    refine st1 ?_
    rcases e_bif hF with ⟨hb, hF⟩ | ⟨hb, hF⟩ <;> rw [hb]
    · refine st1 ?_
      obtain ⟨_, h, hF⟩ := e_bind hF
      (first | refine g_call h lv1 ?_ | refine g_callT h lv1 ?_)
      (conv => arg 1; whnf)
      refine st1 ?_
      rcases e_bif hF with ⟨hb, hF⟩ | ⟨hb, hF⟩ <;> rw [hb]
      · refine st1 ?_
        obtain ⟨_, h, hF⟩ := e_bind hF
        (first | refine g_call h lv1 ?_ | refine g_callT h lv1 ?_)
        (conv => arg 1; whnf)
        refine st1 ?_
        rcases e_bif hF with ⟨hb, hF⟩ | ⟨hb, hF⟩ <;> rw [hb]
        · refine st1 ?_
          obtain ⟨_, h, hF⟩ := e_bind hF
          (first | refine g_call h lv1 ?_ | refine g_callT h lv1 ?_)
          (conv => arg 1; whnf)
          refine st1 ?_
          rcases e_bif hF with ⟨hb, hF⟩ | ⟨hb, hF⟩ <;> rw [hb]
          · refine st1 ?_
            obtain ⟨_, h, hF⟩ := e_bind hF
            (first | refine g_call h lv1 ?_ | refine g_callT h lv1 ?_)
            (conv => arg 1; whnf)
            refine st1 ?_
            have hq : some _ = some _ := hF
            cases hq
            exact en1
          · refine st1 ?_
            have hq : some _ = some _ := hF
            cases hq
            exact en1
        · refine st1 ?_
          have hq : some _ = some _ := hF
          cases hq
          exact en1
      · refine st1 ?_
        have hq : some _ = some _ := hF
        cases hq
        exact en1
    · refine st1 ?_
      have hq : some _ = some _ := hF
      cases hq
      exact en1
  · refine st1 ?_
    have hq : some _ = some _ := hF
    cases hq
    exact en1


@[reducible] noncomputable def c_numbers_Every_Shoal (C : FuncId → Option Con) : Con := conK F_numbers_Every_Shoal (fun x => match x with | (a0, a1, g, caps) => [(V.sl (recs eTShoal (a0)) (a0).length), (V.fn g caps)]) (fun x => match x with | (a0, a1, g, caps) => Callable (ext C []) g caps (fun x => match x with | (q0) => [(V.agg (eTShoal q0))]) (fun r => (V.v (.bool (r)))) a1) (fun r => (V.v (.bool (r))))
theorem h_numbers_Every_Shoal {C : FuncId → Option Con} (hC : CtxOK Try.prog C) : Has Try.prog 60 (c_numbers_Every_Shoal C) := by
  refine hasK (ext_nil hC) mix Try.func60 rfl (by kernel_rfl) ?_
  rintro ⟨a0, a1, g, caps⟩ r hcl hF
  obtain ⟨hcaps, c, hc, hce, hcall⟩ := id hcl
  refine ⟨of_decide_eq_true rfl, ?_⟩
  refine st1 ?_
  refine st_loopF (e_assoc hF) () [] ⟨sT, sS, by rfl, by rfl⟩ ?_
  · rintro n _ _ x hx1 hF
    (conv => arg 7; whnf); (conv => arg 8; whnf); (conv => arg 9; whnf)
    refine st1 ?_
    rcases e_bif hF with ⟨hb, hF⟩ | ⟨hb, hF⟩ <;> rw [hb]
    · refine st1 ?_
      obtain ⟨_, h, hF⟩ := e_bind hF
      (first | refine o_ia (enc := eTShoal) (s := 6) h (fun _ => rfl) (by decide) ?_ | refine o_iaT (enc := eTShoal) (s := 6) h (fun _ => rfl) (by decide) ?_)
      intro _
      refine st1 ?_
      obtain ⟨_, h, hF⟩ := e_bind hF
      rw [hc]
      (conv => arg 1; whnf)
      rw [hce]
      (conv => arg 1; whnf)
      (first | refine go_map hcaps rfl ?_ | refine goT_map hcaps rfl ?_)
      (conv => arg 1; whnf)
      obtain ⟨z, hz1, hz2, hz3⟩ := hcall _ _ h
      (first | refine go_exi z ⟨levs_eq hz1.symm, hz2⟩ ?_ | refine goT_exi z ⟨levs_eq hz1.symm, hz2⟩ ?_)
      rw [hz3]
      (conv => arg 1; whnf)
      refine st1 ?_
      rcases e_bif hF with ⟨hb, hF⟩ | ⟨hb, hF⟩ <;> rw [hb]
      · refine st1 ?_
        have hF := e_some hF
        have hq : some _ = some _ := hF
        cases hq
        exact en1
      · refine st1 ?_
        exact k_loopF (e_some hF) hx1 () [] ⟨sT, sS, by rfl, by rfl⟩
    · refine st1 ?_
      have hF := e_some hF
      have hq : some _ = some _ := hF
      cases hq
      exact en1


@[reducible] noncomputable def c_river_find : Con := conF F_river_find (fun x => match x with | (a0, a1) => [(V.agg (eTRiver a0)), (V.v (.int .i64 (a1)))]) (fun r => V.tup [(V.agg (eTriver_site r.1)), (V.v (.bool (r.2)))])
theorem h_river_find : Has Try.prog 77 c_river_find := by
  refine hasF ctx_nil mix Try.func77 rfl (by kernel_rfl) ?_
  rintro ⟨a0, a1⟩ r hF
  refine ⟨of_decide_eq_true rfl, ?_⟩
  refine st1 ?_
  refine st_loopF (e_assoc hF) () [(0, _), (1, _)] ⟨sT, sS, by rfl, by rfl⟩ ?_
  · rintro n ⟨_, _⟩ _ x hx1 hF
    (conv => arg 7; whnf); (conv => arg 8; whnf); (conv => arg 9; whnf)
    refine st1 ?_
    rcases e_bif hF with ⟨hb, hF⟩ | ⟨hb, hF⟩ <;> rw [hb]
    · refine st1 ?_
      obtain ⟨_, h, hF⟩ := e_bind hF
      (first | refine o_ia (enc := eTReach) (s := 9) h (fun _ => rfl) (by decide) ?_ | refine o_iaT (enc := eTReach) (s := 9) h (fun _ => rfl) (by decide) ?_)
      intro _
      refine st1 ?_
      rcases e_bif hF with ⟨hb, hF⟩ | ⟨hb, hF⟩ <;> rw [hb]
      · refine st1 ?_
        rcases e_bif hF with ⟨hb, hF⟩ | ⟨hb, hF⟩ <;> rw [hb]
        · refine st1 ?_
          have hF := e_some hF
          have hq : some _ = some _ := hF
          cases hq
          exact en1
        · refine st1 ?_
          exact k_loopF (e_some hF) hx1 () [(0, _), (1, _)] ⟨sT, sS, by rfl, by rfl⟩
      · refine st1 ?_
        exact k_loopF (e_some hF) hx1 () [(0, _), (1, _)] ⟨sT, sS, by rfl, by rfl⟩
    · refine st1 ?_
      have hF := e_some hF
      have hq : some _ = some _ := hF
      cases hq
      exact en1


@[reducible] noncomputable def c_river_validShoal : Con := conF F_river_validShoal (fun x => match x with | (a0, a1) => [(V.agg (eTRiver a0)), (V.agg (eTShoal a1))]) (fun r => (V.v (.bool (r))))
theorem h_river_validShoal : Has Try.prog 62 c_river_validShoal := by
  refine hasF (ctx_cons h_river_find (ctx_cons h_numbers_Valid (ctx_cons h_numbers_Within ctx_nil))) mix Try.func62 rfl (by kernel_rfl) ?_
  rintro ⟨a0, a1⟩ r hF
  refine ⟨of_decide_eq_true rfl, ?_⟩
  refine st1 ?_
  obtain ⟨_, h, hF⟩ := e_bind hF
  (first | refine g_call h lv1 ?_ | refine g_callT h lv1 ?_)
  (conv => arg 1; whnf)
  refine st1 ?_
  rcases e_bif hF with ⟨hb, hF⟩ | ⟨hb, hF⟩ <;> rw [hb]
  · refine st1 ?_
    obtain ⟨_, h, hF⟩ := e_bind hF
    (first | refine g_call h lv1 ?_ | refine g_callT h lv1 ?_)
    (conv => arg 1; whnf)
    refine st1 ?_
    rcases e_bif hF with ⟨hb, hF⟩ | ⟨hb, hF⟩ <;> rw [hb]
    · refine st1 ?_
      obtain ⟨_, h, hF⟩ := e_bind hF
      (first | refine g_call h lv1 ?_ | refine g_callT h lv1 ?_)
      (conv => arg 1; whnf)
      refine st1 ?_
      rcases e_bif hF with ⟨hb, hF⟩ | ⟨hb, hF⟩ <;> rw [hb]
      · refine st1 ?_
        obtain ⟨_, h, hF⟩ := e_bind hF
        (first | refine g_call h lv1 ?_ | refine g_callT h lv1 ?_)
        (conv => arg 1; whnf)
        refine st1 ?_
        have hq : some _ = some _ := hF
        cases hq
        exact en1
      · refine st1 ?_
        have hq : some _ = some _ := hF
        cases hq
        exact en1
    · refine st1 ?_
      have hq : some _ = some _ := hF
      cases hq
      exact en1
  · refine st1 ?_
    have hq : some _ = some _ := hF
    cases hq
    exact en1


@[reducible] noncomputable def c_river_Check_1 : Con := conF F_river_Check_1 (fun x => match x with | (a0, c0) => [(V.agg (eTShoal a0)), (V.fptr [(V.sl (recs eTReach (c0.Reaches)) (c0.Reaches).length), (V.sl (recs eTShoal (c0.Shoals)) (c0.Shoals).length)])]) (fun r => (V.v (.bool (r))))
theorem h_river_Check_1 : Has Try.prog 61 c_river_Check_1 := by
  refine hasF (ctx_cons h_river_validShoal ctx_nil) mix Try.func61 rfl (by kernel_rfl) ?_
  rintro ⟨a0, c0⟩ r hF
  refine ⟨of_decide_eq_true rfl, ?_⟩
  refine st1 ?_
  obtain ⟨_, h, hF⟩ := e_bind hF
  (first | refine g_call h lv1 ?_ | refine g_callT h lv1 ?_)
  (conv => arg 1; whnf)
  refine st1 ?_
  have hq : some _ = some _ := hF
  cases hq
  exact en1


@[reducible] noncomputable def c_river_Check : Con := conF F_river_Check (fun x => match x with | (a0) => [(V.agg (eTRiver a0))]) (fun r => (V.v (.int .i64 (r))))
theorem h_river_Check : Has Try.prog 19 c_river_Check := by
  refine hasF (ctx_cons (h_numbers_Every_Shoal (ctx_cons h_river_Check_1 ctx_nil)) (ctx_cons (h_numbers_Every_Reach (ctx_cons h_river_validReach ctx_nil)) (ctx_cons h_numbers_Within ctx_nil))) mix Try.func19 rfl (by kernel_rfl) ?_
  rintro a0 r hF
  refine ⟨of_decide_eq_true rfl, ?_⟩
  refine st1 ?_
  obtain ⟨_, h, hF⟩ := e_bind hF
  (first | refine g_call h lv1 ?_ | refine g_callT h lv1 ?_)
  (conv => arg 1; whnf)
  refine st1 ?_
  rcases e_bif hF with ⟨hb, hF⟩ | ⟨hb, hF⟩ <;> rw [hb]
  · refine st1 ?_
    have hq : some _ = some _ := hF
    cases hq
    exact en1
  · refine st1 ?_
    obtain ⟨_, h, hF⟩ := e_bind hF
    (first | refine g_hcall h lv1 (callable_conF rfl rfl (fun _ => rfl)) ?_ | refine g_hcallT h lv1 (callable_conF rfl rfl (fun _ => rfl)) ?_)
    (conv => arg 1; whnf)
    refine st1 ?_
    rcases e_bif hF with ⟨hb, hF⟩ | ⟨hb, hF⟩ <;> rw [hb]
    · refine st1 ?_
      have hq : some _ = some _ := hF
      cases hq
      exact en1
    · refine st1 ?_
      rcases e_bif hF with ⟨hb, hF⟩ | ⟨hb, hF⟩ <;> rw [hb]
      · refine st1 ?_
        have hq : some _ = some _ := hF
        cases hq
        exact en1
      · refine st1 ?_
        obtain ⟨_, h, hF⟩ := e_bind hF
        (first | refine g_hcall h lv1 (callable_conF rfl rfl (fun _ => rfl)) ?_ | refine g_hcallT h lv1 (callable_conF rfl rfl (fun _ => rfl)) ?_)
        (conv => arg 1; whnf)
        refine st1 ?_
        rcases e_bif hF with ⟨hb, hF⟩ | ⟨hb, hF⟩ <;> rw [hb]
        · refine st1 ?_
          have hq : some _ = some _ := hF
          cases hq
          exact en1
        · refine st1 ?_
          have hq : some _ = some _ := hF
          cases hq
          exact en1


@[reducible] noncomputable def c_numbers_Every_L_Bounds (C : FuncId → Option Con) : Con := conK F_numbers_Every_L_Bounds (fun x => match x with | (a0, a1, g, caps) => [(V.sl (recs (eS eTBounds) (a0)) (a0).length), (V.fn g caps)]) (fun x => match x with | (a0, a1, g, caps) => Callable (ext C []) g caps (fun x => match x with | (q0) => [(V.sl (recs eTBounds (q0)) (q0).length)]) (fun r => (V.v (.bool (r)))) a1) (fun r => (V.v (.bool (r))))
theorem h_numbers_Every_L_Bounds {C : FuncId → Option Con} (hC : CtxOK Try.prog C) : Has Try.prog 106 (c_numbers_Every_L_Bounds C) := by
  refine hasK (ext_nil hC) mix Try.func106 rfl (by kernel_rfl) ?_
  rintro ⟨a0, a1, g, caps⟩ r hcl hF
  obtain ⟨hcaps, c, hc, hce, hcall⟩ := id hcl
  refine ⟨of_decide_eq_true rfl, ?_⟩
  refine st1 ?_
  refine st_loopF (e_assoc hF) () [] ⟨sT, sS, by rfl, by rfl⟩ ?_
  · rintro n _ _ x hx1 hF
    (conv => arg 7; whnf); (conv => arg 8; whnf); (conv => arg 9; whnf)
    refine st1 ?_
    rcases e_bif hF with ⟨hb, hF⟩ | ⟨hb, hF⟩ <;> rw [hb]
    · refine st1 ?_
      obtain ⟨_, h, hF⟩ := e_bind hF
      (first | refine o_ia (enc := (eS eTBounds)) (s := 1) h (fun _ => rfl) (by decide) ?_ | refine o_iaT (enc := (eS eTBounds)) (s := 1) h (fun _ => rfl) (by decide) ?_)
      intro _
      refine st1 ?_
      obtain ⟨_, h, hF⟩ := e_bind hF
      rw [hc]
      (conv => arg 1; whnf)
      rw [hce]
      (conv => arg 1; whnf)
      (first | refine go_map hcaps rfl ?_ | refine goT_map hcaps rfl ?_)
      (conv => arg 1; whnf)
      obtain ⟨z, hz1, hz2, hz3⟩ := hcall _ _ h
      (first | refine go_exi z ⟨levs_eq hz1.symm, hz2⟩ ?_ | refine goT_exi z ⟨levs_eq hz1.symm, hz2⟩ ?_)
      rw [hz3]
      (conv => arg 1; whnf)
      refine st1 ?_
      rcases e_bif hF with ⟨hb, hF⟩ | ⟨hb, hF⟩ <;> rw [hb]
      · refine st1 ?_
        have hF := e_some hF
        have hq : some _ = some _ := hF
        cases hq
        exact en1
      · refine st1 ?_
        exact k_loopF (e_some hF) hx1 () [] ⟨sT, sS, by rfl, by rfl⟩
    · refine st1 ?_
      have hF := e_some hF
      have hq : some _ = some _ := hF
      cases hq
      exact en1


@[reducible] noncomputable def c_river_checkForecast_1 : Con := conF F_river_checkForecast_1 (fun x => match x with | (a0, c0) => [(V.sl (recs eTBounds (a0)) (a0).length), (V.fptr [(V.v (.int .i64 (c0)))])]) (fun r => (V.v (.bool (r))))
theorem h_river_checkForecast_1 : Has Try.prog 107 c_river_checkForecast_1 := by
  refine hasF ctx_nil mix Try.func107 rfl (by kernel_rfl) ?_
  rintro ⟨a0, c0⟩ r hF
  refine ⟨of_decide_eq_true rfl, ?_⟩
  refine st1 ?_
  have hq : some _ = some _ := hF
  cases hq
  exact en1


@[reducible] noncomputable def c_river_checkForecast_2 : Con := conF F_river_checkForecast_2 (fun x => match x with | (a0) => [(V.agg (eTBounds a0))]) (fun r => (V.v (.bool (r))))
theorem h_river_checkForecast_2 : Has Try.prog 108 c_river_checkForecast_2 := by
  refine hasF (ctx_cons h_numbers_Valid ctx_nil) mix Try.func108 rfl (by kernel_rfl) ?_
  rintro a0 r hF
  refine ⟨of_decide_eq_true rfl, ?_⟩
  refine st1 ?_
  obtain ⟨_, h, hF⟩ := e_bind hF
  (first | refine g_call h lv1 ?_ | refine g_callT h lv1 ?_)
  (conv => arg 1; whnf)
  refine st1 ?_
  have hq : some _ = some _ := hF
  cases hq
  exact en1


@[reducible] noncomputable def c_numbers_Every_Bounds (C : FuncId → Option Con) : Con := conK F_numbers_Every_Bounds (fun x => match x with | (a0, a1, g, caps) => [(V.sl (recs eTBounds (a0)) (a0).length), (V.fn g caps)]) (fun x => match x with | (a0, a1, g, caps) => Callable (ext C []) g caps (fun x => match x with | (q0) => [(V.agg (eTBounds q0))]) (fun r => (V.v (.bool (r)))) a1) (fun r => (V.v (.bool (r))))
theorem h_numbers_Every_Bounds {C : FuncId → Option Con} (hC : CtxOK Try.prog C) : Has Try.prog 110 (c_numbers_Every_Bounds C) := by
  refine hasK (ext_nil hC) mix Try.func110 rfl (by kernel_rfl) ?_
  rintro ⟨a0, a1, g, caps⟩ r hcl hF
  obtain ⟨hcaps, c, hc, hce, hcall⟩ := id hcl
  refine ⟨of_decide_eq_true rfl, ?_⟩
  refine st1 ?_
  refine st_loopF (e_assoc hF) () [] ⟨sT, sS, by rfl, by rfl⟩ ?_
  · rintro n _ _ x hx1 hF
    (conv => arg 7; whnf); (conv => arg 8; whnf); (conv => arg 9; whnf)
    refine st1 ?_
    rcases e_bif hF with ⟨hb, hF⟩ | ⟨hb, hF⟩ <;> rw [hb]
    · refine st1 ?_
      obtain ⟨_, h, hF⟩ := e_bind hF
      (first | refine o_ia (enc := eTBounds) (s := 2) h (fun _ => rfl) (by decide) ?_ | refine o_iaT (enc := eTBounds) (s := 2) h (fun _ => rfl) (by decide) ?_)
      intro _
      refine st1 ?_
      obtain ⟨_, h, hF⟩ := e_bind hF
      rw [hc]
      (conv => arg 1; whnf)
      rw [hce]
      (conv => arg 1; whnf)
      (first | refine go_map hcaps rfl ?_ | refine goT_map hcaps rfl ?_)
      (conv => arg 1; whnf)
      obtain ⟨z, hz1, hz2, hz3⟩ := hcall _ _ h
      (first | refine go_exi z ⟨levs_eq hz1.symm, hz2⟩ ?_ | refine goT_exi z ⟨levs_eq hz1.symm, hz2⟩ ?_)
      rw [hz3]
      (conv => arg 1; whnf)
      refine st1 ?_
      rcases e_bif hF with ⟨hb, hF⟩ | ⟨hb, hF⟩ <;> rw [hb]
      · refine st1 ?_
        have hF := e_some hF
        have hq : some _ = some _ := hF
        cases hq
        exact en1
      · refine st1 ?_
        exact k_loopF (e_some hF) hx1 () [] ⟨sT, sS, by rfl, by rfl⟩
    · refine st1 ?_
      have hF := e_some hF
      have hq : some _ = some _ := hF
      cases hq
      exact en1


@[reducible] noncomputable def c_river_checkForecast_3 (C : FuncId → Option Con) : Con := conK F_river_checkForecast_3 (fun x => match x with | (a0, c0, g, caps) => [(V.sl (recs eTBounds (a0)) (a0).length), (V.fptr [(V.fn g caps)])]) (fun x => match x with | (a0, c0, g, caps) => Callable (ext C []) g caps (fun x => match x with | (q0) => [(V.agg (eTBounds q0))]) (fun r => (V.v (.bool (r)))) c0 ∧ Callable (ext C [(110, c_numbers_Every_Bounds C)]) g caps (fun x => match x with | (q0) => [(V.agg (eTBounds q0))]) (fun r => (V.v (.bool (r)))) c0) (fun r => (V.v (.bool (r))))
theorem h_river_checkForecast_3 {C : FuncId → Option Con} (hC : CtxOK Try.prog C) : Has Try.prog 109 (c_river_checkForecast_3 C) := by
  refine hasK (ext_cons (h_numbers_Every_Bounds hC) (ext_nil hC)) mix Try.func109 rfl (by kernel_rfl) ?_
  rintro ⟨a0, c0, g, caps⟩ r ⟨hc0, hcl⟩ hF
  obtain ⟨hcaps, c, hc, hce, hcall⟩ := id hcl
  refine ⟨of_decide_eq_true rfl, ?_⟩
  refine st1 ?_
  obtain ⟨_, h, hF⟩ := e_bind hF
  (first | refine go_map hcaps rfl ?_ | refine goT_map hcaps rfl ?_)
  (conv => arg 1; whnf)
  (first | refine g_hcall h lv1 (by exact hc0) ?_ | refine g_hcallT h lv1 (by exact hc0) ?_)
  (conv => arg 1; whnf)
  refine st1 ?_
  have hq : some _ = some _ := hF
  cases hq
  exact en1


@[reducible] noncomputable def c_river_checkForecast : Con := conF F_river_checkForecast (fun x => match x with | (a0, a1) => [(V.agg (eTRiver a0)), (V.sl (recs (eS eTBounds) (a1)) (a1).length)]) (fun r => (V.v (.int .i64 (r))))
theorem h_river_checkForecast : Has Try.prog 94 c_river_checkForecast := by
  refine hasF (ctx_cons (h_numbers_Every_L_Bounds (ctx_cons (h_river_checkForecast_3 (ctx_cons h_river_checkForecast_2 ctx_nil)) (ctx_cons h_river_checkForecast_1 ctx_nil))) ctx_nil) mix Try.func94 rfl (by kernel_rfl) ?_
  rintro ⟨a0, a1⟩ r hF
  refine ⟨of_decide_eq_true rfl, ?_⟩
  refine st1 ?_
  rcases e_bif hF with ⟨hb, hF⟩ | ⟨hb, hF⟩ <;> rw [hb]
  · refine st1 ?_
    have hq : some _ = some _ := hF
    cases hq
    exact en1
  · refine st1 ?_
    obtain ⟨_, h, hF⟩ := e_bind hF
    (first | refine o_ia (enc := (eS eTBounds)) (s := 1) h (fun _ => rfl) (by decide) ?_ | refine o_iaT (enc := (eS eTBounds)) (s := 1) h (fun _ => rfl) (by decide) ?_)
    intro _
    refine st1 ?_
    rcases e_bif hF with ⟨hb, hF⟩ | ⟨hb, hF⟩ <;> rw [hb]
    · refine st1 ?_
      have hq : some _ = some _ := hF
      cases hq
      exact en1
    · refine st1 ?_
      obtain ⟨_, h, hF⟩ := e_bind hF
      (first | refine g_hcall h lv1 (callable_conF rfl rfl (fun _ => rfl)) ?_ | refine g_hcallT h lv1 (callable_conF rfl rfl (fun _ => rfl)) ?_)
      (conv => arg 1; whnf)
      refine st1 ?_
      rcases e_bif hF with ⟨hb, hF⟩ | ⟨hb, hF⟩ <;> rw [hb]
      · refine st1 ?_
        have hq : some _ = some _ := hF
        cases hq
        exact en1
      · refine st1 ?_
        rcases e_bif hF with ⟨hb, hF⟩ | ⟨hb, hF⟩ <;> rw [hb]
        · refine st1 ?_
          have hq : some _ = some _ := hF
          cases hq
          exact en1
        · refine st1 ?_
          obtain ⟨_, h, hF⟩ := e_bind hF
          (first | refine g_hcall h lv1 (callable_conK rfl rfl (fun _ => rfl) (fun _ => ⟨callable_conF rfl rfl (fun _ => rfl), callable_conF rfl rfl (fun _ => rfl)⟩)) ?_ | refine g_hcallT h lv1 (callable_conK rfl rfl (fun _ => rfl) (fun _ => ⟨callable_conF rfl rfl (fun _ => rfl), callable_conF rfl rfl (fun _ => rfl)⟩)) ?_)
          (conv => arg 1; whnf)
          refine st1 ?_
          rcases e_bif hF with ⟨hb, hF⟩ | ⟨hb, hF⟩ <;> rw [hb]
          · refine st1 ?_
            have hq : some _ = some _ := hF
            cases hq
            exact en1
          · refine st1 ?_
            have hq : some _ = some _ := hF
            cases hq
            exact en1


@[reducible] noncomputable def c_river_stream_inflow : Con := conF F_river_stream_inflow (fun x => match x with | (a0, a1, a2) => [(V.agg (eTriver_stream a0)), (V.v (.int .i64 (a1))), (V.v (.int .i64 (a2)))]) (fun r => (V.agg (eTBounds r)))
theorem h_river_stream_inflow : Has Try.prog 95 c_river_stream_inflow := by
  refine hasF ctx_nil mix Try.func95 rfl (by kernel_rfl) ?_
  rintro ⟨a0, a1, a2⟩ r hF
  refine ⟨of_decide_eq_true rfl, ?_⟩
  refine st1 ?_
  rcases e_bif hF with ⟨hb, hF⟩ | ⟨hb, hF⟩ <;> rw [hb]
  · refine st1 ?_
    have hq : some _ = some _ := hF
    cases hq
    exact en1
  · refine st1 ?_
    obtain ⟨_, h, hF⟩ := e_bind hF
    (first | refine o_ia (enc := eTReach) (s := 9) h (fun _ => rfl) (by decide) ?_ | refine o_iaT (enc := eTReach) (s := 9) h (fun _ => rfl) (by decide) ?_)
    intro _
    refine st1 ?_
    rcases e_bif hF with ⟨hb, hF⟩ | ⟨hb, hF⟩ <;> rw [hb]
    · refine st1 ?_
      have hq : some _ = some _ := hF
      cases hq
      exact en1
    · refine st1 ?_
      obtain ⟨_, h, hF⟩ := e_bind hF
      (first | refine o_ia (enc := (eS eTBounds)) (s := 1) h (fun _ => rfl) (by decide) ?_ | refine o_iaT (enc := (eS eTBounds)) (s := 1) h (fun _ => rfl) (by decide) ?_)
      intro _
      refine st1 ?_
      obtain ⟨_, h, hF⟩ := e_bind hF
      (first | refine o_ia (enc := eTBounds) (s := 2) h (fun _ => rfl) (by decide) ?_ | refine o_iaT (enc := eTBounds) (s := 2) h (fun _ => rfl) (by decide) ?_)
      intro _
      refine st1 ?_
      have hq : some _ = some _ := hF
      cases hq
      exact en1


@[reducible] noncomputable def c_river_run : Con := conF F_river_run (fun x => match x with | (a0, a1) => [(V.agg (eTRiver a0)), (V.sl (recs (eS eTBounds) (a1)) (a1).length)]) (fun r => V.tup [(V.agg (eTriver_stream r.1)), (V.v (.int .i64 (r.2)))])
theorem h_river_run : Has Try.prog 74 c_river_run := by
  refine hasF (ctx_cons h_river_stream_inflow (ctx_cons h_river_checkForecast (ctx_cons h_numbers_Sum (ctx_cons h_river_Check ctx_nil)))) mix Try.func74 rfl (by kernel_rfl) ?_
  rintro ⟨a0, a1⟩ r hF
  refine ⟨of_decide_eq_true rfl, ?_⟩
  refine st1 ?_
  obtain ⟨_, h, hF⟩ := e_bind hF
  (first | refine g_call h lv1 ?_ | refine g_callT h lv1 ?_)
  (conv => arg 1; whnf)
  refine st1 ?_
  rcases e_bif hF with ⟨hb, hF⟩ | ⟨hb, hF⟩ <;> rw [hb]
  · refine st1 ?_
    have hq : some _ = some _ := hF
    cases hq
    exact en1
  · refine st1 ?_
    obtain ⟨_, h, hF⟩ := e_bind hF
    (first | refine g_call h lv1 ?_ | refine g_callT h lv1 ?_)
    (conv => arg 1; whnf)
    refine st1 ?_
    rcases e_bif hF with ⟨hb, hF⟩ | ⟨hb, hF⟩ <;> rw [hb]
    · refine st1 ?_
      have hq : some _ = some _ := hF
      cases hq
      exact en1
    · refine st1 ?_
      refine st_loopF (e_assoc hF) 0 [(1, _), (16, _)] ⟨sT, sS, by rfl, by rfl⟩ ?_
      · rintro n ⟨_, _⟩ _ x hx1 hF
        (conv => arg 7; whnf); (conv => arg 8; whnf); (conv => arg 9; whnf)
        refine st1 ?_
        rcases e_bif hF with ⟨hb, hF⟩ | ⟨hb, hF⟩ <;> rw [hb]
        · refine st1 ?_
          obtain ⟨_, h, hF⟩ := e_bind hF
          (first | refine o_ia (enc := (eS eTBounds)) (s := 1) h (fun _ => rfl) (by decide) ?_ | refine o_iaT (enc := (eS eTBounds)) (s := 1) h (fun _ => rfl) (by decide) ?_)
          intro _
          refine st1 ?_
          obtain ⟨_, h, hF⟩ := e_bind hF
          (first | refine o_mk (enc := eTBounds) (s := 2) h (by decide) rfl ?_ | refine o_mkT (enc := eTBounds) (s := 2) h (by decide) rfl ?_)
          refine st1 ?_
          refine st_loopF (e_assoc hF) _ [(1, _), (16, _), (17, _), (26, _)] ⟨sT, sS, by rfl, by rfl⟩ ?_
          · rintro n ⟨_, _⟩ _ x hx2 hF
            (conv => arg 7; whnf); (conv => arg 8; whnf); (conv => arg 9; whnf)
            refine st1 ?_
            rcases e_bif hF with ⟨hb, hF⟩ | ⟨hb, hF⟩ <;> rw [hb]
            · refine st1 ?_
              obtain ⟨_, h, hF⟩ := e_bind hF
              (first | refine o_ia (enc := eTBounds) (s := 2) h (fun _ => rfl) (by decide) ?_ | refine o_iaT (enc := eTBounds) (s := 2) h (fun _ => rfl) (by decide) ?_)
              intro _
              refine st1 ?_
              obtain ⟨_, h, hF⟩ := e_bind hF
              (first | refine g_call h lv1 ?_ | refine g_callT h lv1 ?_)
              (conv => arg 1; whnf)
              refine st1 ?_
              obtain ⟨_, h, hF⟩ := e_bind hF
              (first | refine g_call h lv1 ?_ | refine g_callT h lv1 ?_)
              (conv => arg 1; whnf)
              refine st1 ?_
              obtain ⟨_, hi37, hF⟩ := e_bind hF
              (first | refine go_req (oidx_ok hi37 (by decide)) ?_ | refine goT_req (oidx_ok hi37 (by decide)) ?_)
              (conv => arg 1; whnf)
              refine st1 ?_
              obtain ⟨_, h, hF⟩ := e_bind hF
              (first | refine o_stA (enc := eTBounds) (s := 2) hi37 h (fun _ => rfl) (by decide) rfl rfl ?_ | refine o_stB (enc := eTBounds) (s := 2) hi37 h (fun _ => rfl) (by decide) rfl rfl ?_ | refine o_stAT (enc := eTBounds) (s := 2) hi37 h (fun _ => rfl) (by decide) rfl rfl ?_)
              refine st1 ?_
              exact k_loopF (e_some hF) hx2 _ [(1, _), (16, _), (17, _), (26, _)] ⟨sT, sS, by rfl, by rfl⟩
            · refine st1 ?_
              have hF := e_some hF
              obtain ⟨_, h, hF⟩ := e_bind hF
              (first | refine o_app (enc := (eS eTBounds)) (s := 1) h (fun _ => rfl) ?_ | refine o_appT (enc := (eS eTBounds)) (s := 1) h (fun _ => rfl) ?_)
              refine st1 ?_
              exact k_loopF (e_some hF) hx1 _ [(1, _), (16, _), (17, _)] ⟨sT, sS, by rfl, by rfl⟩
        · refine st1 ?_
          have hF := e_some hF
          have hq : some _ = some _ := hF
          cases hq
          exact en1


@[reducible] noncomputable def c_river_stream_hours : Con := conF F_river_stream_hours (fun x => match x with | (a0) => [(V.agg (eTriver_stream a0))]) (fun r => (V.v (.int .i64 (r))))
theorem h_river_stream_hours : Has Try.prog 75 c_river_stream_hours := by
  refine hasF ctx_nil mix Try.func75 rfl (by kernel_rfl) ?_
  rintro a0 r hF
  refine ⟨of_decide_eq_true rfl, ?_⟩
  refine st1 ?_
  obtain ⟨_, h, hF⟩ := e_bind hF
  (first | refine o_ia (enc := (eS eTBounds)) (s := 1) h (fun _ => rfl) (by decide) ?_ | refine o_iaT (enc := (eS eTBounds)) (s := 1) h (fun _ => rfl) (by decide) ?_)
  intro _
  refine st1 ?_
  have hq : some _ = some _ := hF
  cases hq
  exact en1


@[reducible] noncomputable def c_river_Volume : Con := conF F_river_Volume (fun x => match x with | (a0, a1, a2, a3, a4) => [(V.agg (eTRiver a0)), (V.sl (recs (eS eTBounds) (a1)) (a1).length), (V.v (.int .i64 (a2))), (V.v (.int .i64 (a3))), (V.v (.int .i64 (a4)))]) (fun r => V.tup [(V.agg (eTBounds r.1)), (V.v (.int .i64 (r.2)))])
theorem h_river_Volume : Has Try.prog 36 c_river_Volume := by
  refine hasF (ctx_cons h_river_stream_hours (ctx_cons h_river_run (ctx_cons h_numbers_Sum (ctx_cons h_numbers_Within ctx_nil)))) mix Try.func36 rfl (by kernel_rfl) ?_
  rintro ⟨a0, a1, a2, a3, a4⟩ r hF
  refine ⟨of_decide_eq_true rfl, ?_⟩
  refine st1 ?_
  obtain ⟨_, h, hF⟩ := e_bind hF
  (first | refine g_call h lv1 ?_ | refine g_callT h lv1 ?_)
  (conv => arg 1; whnf)
  refine st1 ?_
  rcases e_bif hF with ⟨hb, hF⟩ | ⟨hb, hF⟩ <;> rw [hb]
  · refine st1 ?_
    have hq : some _ = some _ := hF
    cases hq
    exact en1
  · refine st1 ?_
    obtain ⟨_, h, hF⟩ := e_bind hF
    (first | refine g_call h lv1 ?_ | refine g_callT h lv1 ?_)
    (conv => arg 1; whnf)
    refine st1 ?_
    rcases e_bif hF with ⟨hb, hF⟩ | ⟨hb, hF⟩ <;> rw [hb]
    · refine st1 ?_
      have hq : some _ = some _ := hF
      cases hq
      exact en1
    · refine st1 ?_
      obtain ⟨_, h, hF⟩ := e_bind hF
      (first | refine g_call h lv1 ?_ | refine g_callT h lv1 ?_)
      (conv => arg 1; whnf)
      refine st1 ?_
      obtain ⟨_, h, hF⟩ := e_bind hF
      (first | refine g_call h lv1 ?_ | refine g_callT h lv1 ?_)
      (conv => arg 1; whnf)
      refine st1 ?_
      rcases e_bif hF with ⟨hb, hF⟩ | ⟨hb, hF⟩ <;> rw [hb]
      · refine st1 ?_
        have hq : some _ = some _ := hF
        cases hq
        exact en1
      · refine st1 ?_
        rcases e_bif hF with ⟨hb, hF⟩ | ⟨hb, hF⟩ <;> rw [hb]
        · refine st1 ?_
          have hq : some _ = some _ := hF
          cases hq
          exact en1
        · refine st1 ?_
          obtain ⟨_, h, hF⟩ := e_bind hF
          (first | refine o_ia (enc := (eS eTBounds)) (s := 1) h (fun _ => rfl) (by decide) ?_ | refine o_iaT (enc := (eS eTBounds)) (s := 1) h (fun _ => rfl) (by decide) ?_)
          intro _
          refine st1 ?_
          obtain ⟨_, h, hF⟩ := e_bind hF
          (first | refine o_slc (enc := eTBounds) (s := 2) h (fun _ => rfl) ?_ | refine o_slcT (enc := eTBounds) (s := 2) h (fun _ => rfl) ?_)
          refine st1 ?_
          obtain ⟨_, h, hF⟩ := e_bind hF
          (first | refine g_call h lv1 ?_ | refine g_callT h lv1 ?_)
          (conv => arg 1; whnf)
          refine st1 ?_
          have hq : some _ = some _ := hF
          cases hq
          exact en1


@[reducible] noncomputable def c_thalwegref01_Flow : Con := conF F_thalwegref01_Flow (fun x => match x with | (a0, a1, a2, a3) => [(V.agg (eTRiver a0)), (V.sl (recs (eS eTBounds) (a1)) (a1).length), (V.v (.int .i64 (a2))), (V.v (.int .i64 (a3)))]) (fun r => (V.agg (eTBounds r)))
theorem hS_thalwegref01_Flow (n : Nat) (ih : Has Try.prog 38 (conF (recN B_thalwegref01_Flow n) (fun x => match x with | (a0, a1, a2, a3) => [(V.agg (eTRiver a0)), (V.sl (recs (eS eTBounds) (a1)) (a1).length), (V.v (.int .i64 (a2))), (V.v (.int .i64 (a3)))]) (fun r => (V.agg (eTBounds r))))) : Has Try.prog 38 (conF (recN B_thalwegref01_Flow (n + 1)) (fun x => match x with | (a0, a1, a2, a3) => [(V.agg (eTRiver a0)), (V.sl (recs (eS eTBounds) (a1)) (a1).length), (V.v (.int .i64 (a2))), (V.v (.int .i64 (a3)))]) (fun r => (V.agg (eTBounds r)))) := by
  refine hasF (ctx_cons ih ctx_nil) mix Try.func38 rfl (by kernel_rfl) ?_
  rintro ⟨a0, a1, a2, a3⟩ r hF
  refine ⟨of_decide_eq_true rfl, ?_⟩
  replace hF : (B_thalwegref01_Flow (recN B_thalwegref01_Flow n) _).bind some = some r := hF
  refine st1 ?_
  rcases e_bif hF with ⟨hb, hF⟩ | ⟨hb, hF⟩ <;> rw [hb]
  · refine st1 ?_
    obtain ⟨_, h, hF⟩ := e_bind hF
    (first | refine o_ia (enc := eTReach) (s := 9) h (fun _ => rfl) (by decide) ?_ | refine o_iaT (enc := eTReach) (s := 9) h (fun _ => rfl) (by decide) ?_)
    intro _
    refine st1 ?_
    have hq : some _ = some _ := hF
    cases hq
    exact en1
  · refine st1 ?_
    obtain ⟨_, h, hF⟩ := e_bind hF
    (first | refine o_ia (enc := (eS eTBounds)) (s := 1) h (fun _ => rfl) (by decide) ?_ | refine o_iaT (enc := (eS eTBounds)) (s := 1) h (fun _ => rfl) (by decide) ?_)
    intro _
    refine st1 ?_
    obtain ⟨_, h, hF⟩ := e_bind hF
    (first | refine o_ia (enc := eTBounds) (s := 2) h (fun _ => rfl) (by decide) ?_ | refine o_iaT (enc := eTBounds) (s := 2) h (fun _ => rfl) (by decide) ?_)
    intro _
    refine st1 ?_
    rcases e_bif hF with ⟨hb, hF⟩ | ⟨hb, hF⟩ <;> rw [hb]
    · refine st1 ?_
      obtain ⟨_, h, hF⟩ := e_bind hF
      (first | refine o_ia (enc := eTReach) (s := 9) h (fun _ => rfl) (by decide) ?_ | refine o_iaT (enc := eTReach) (s := 9) h (fun _ => rfl) (by decide) ?_)
      intro _
      refine st1 ?_
      obtain ⟨_, h, hF⟩ := e_bind hF
      (first | refine g_call h lv1 ?_ | refine g_callT h lv1 ?_)
      (conv => arg 1; whnf)
      refine st1 ?_
      have hq : some _ = some _ := hF
      cases hq
      exact en1
    · refine st1 ?_
      have hq : some _ = some _ := hF
      cases hq
      exact en1

theorem hN_thalwegref01_Flow : ∀ n, Has Try.prog 38 (conF (recN B_thalwegref01_Flow n) (fun x => match x with | (a0, a1, a2, a3) => [(V.agg (eTRiver a0)), (V.sl (recs (eS eTBounds) (a1)) (a1).length), (V.v (.int .i64 (a2))), (V.v (.int .i64 (a3)))]) (fun r => (V.agg (eTBounds r))))
  | 0 => hasF ctx_nil mix Try.func38 rfl (by kernel_rfl) (fun x r hF => by cases hF)
  | n + 1 => hS_thalwegref01_Flow n (hN_thalwegref01_Flow n)
theorem h_thalwegref01_Flow : Has Try.prog 38 c_thalwegref01_Flow := has_fix hN_thalwegref01_Flow


@[reducible] noncomputable def c_thalweglaw01_RiverVolumes : Con := conF F_thalweglaw01_RiverVolumes (fun x => match x with | (a0, a1) => [(V.agg (eTthalweglaw01_Forecast a0)), (V.agg (eTanon65 a1))]) (fun r => (V.v (.bool (r))))
theorem fl_thalweglaw01_RiverVolumes_27 : flatOf Try.prog 9 27 = some [true, true] := by kernel_rfl
theorem eg_thalweglaw01_RiverVolumes_27 : Try.prog.eqGuardType Try.prog.depth 27 = false := by kernel_rfl
theorem ag_thalweglaw01_RiverVolumes_27 : aggOf Try.prog 27 = some true := by kernel_rfl
theorem h_thalweglaw01_RiverVolumes : Has Try.prog 6 c_thalweglaw01_RiverVolumes := by
  refine hasF (ctx_cons h_thalwegref01_Flow (ctx_cons h_thalwegref01_In (ctx_cons h_river_Volume (ctx_cons h_thalwegref01_Start (ctx_cons h_thalweglaw01_forecast (ctx_cons h_thalweglaw01_copied (ctx_cons h_thalweglaw01_known (ctx_cons h_thalweglaw01_large ctx_nil)))))))) mix Try.func6 rfl (by kernel_rfl) ?_
  rintro ⟨a0, a1⟩ r hF
  refine ⟨of_decide_eq_true rfl, ?_⟩
  refine st1 ?_
  obtain ⟨_, h, hF⟩ := e_bind hF
  (first | refine g_call h lv1 ?_ | refine g_callT h lv1 ?_)
  (conv => arg 1; whnf)
  refine st1 ?_
  rcases e_bif hF with ⟨hb, hF⟩ | ⟨hb, hF⟩ <;> rw [hb]
  · refine st1 ?_
    obtain ⟨_, h, hF⟩ := e_bind hF
    (first | refine g_call h lv1 ?_ | refine g_callT h lv1 ?_)
    (conv => arg 1; whnf)
    refine st1 ?_
    have hq : some _ = some _ := hF
    cases hq
    exact en1
  · refine st1 ?_
    obtain ⟨_, h, hF⟩ := e_bind hF
    (first | refine g_call h lv1 ?_ | refine g_callT h lv1 ?_)
    (conv => arg 1; whnf)
    refine st1 ?_
    obtain ⟨_, h, hF⟩ := e_bind hF
    (first | refine g_call h lv1 ?_ | refine g_callT h lv1 ?_)
    (conv => arg 1; whnf)
    refine st1 ?_
    obtain ⟨_, h, hF⟩ := e_bind hF
    (first | refine g_call h lv1 ?_ | refine g_callT h lv1 ?_)
    (conv => arg 1; whnf)
    refine st1 ?_
    obtain ⟨_, h, hF⟩ := e_bind hF
    (first | refine g_call h lv1 ?_ | refine g_callT h lv1 ?_)
    (conv => arg 1; whnf)
    refine st1 ?_
    rcases e_bif hF with ⟨hb, hF⟩ | ⟨hb, hF⟩ <;> rw [hb]
    · refine st1 ?_
      obtain ⟨_, h, hF⟩ := e_bind hF
      (first | refine g_call h lv1 ?_ | refine g_callT h lv1 ?_)
      (conv => arg 1; whnf)
      refine st1 ?_
      rcases e_bif hF with ⟨hb, hF⟩ | ⟨hb, hF⟩ <;> rw [hb]
      · refine st1 ?_
        rcases e_bif hF with ⟨hb, hF⟩ | ⟨hb, hF⟩ <;> rw [hb]
        · refine st1 ?_
          rw [fl_thalweglaw01_RiverVolumes_27, eg_thalweglaw01_RiverVolumes_27, ag_thalweglaw01_RiverVolumes_27]
          (conv => arg 1; whnf)
          refine st1 ?_
          rcases e_bif hF with ⟨hb, hF⟩ | ⟨hb, hF⟩ <;> rw [hb]
          · refine st1 ?_
            obtain ⟨_, h, hF⟩ := e_bind hF
            (first | refine g_call h lv1 ?_ | refine g_callT h lv1 ?_)
            (conv => arg 1; whnf)
            refine st1 ?_
            have hq : some _ = some _ := hF
            cases hq
            exact en1
          · refine st1 ?_
            have hq : some _ = some _ := hF
            cases hq
            exact en1
        · refine st1 ?_
          have hq : some _ = some _ := hF
          cases hq
          exact en1
      · refine st1 ?_
        rcases e_bif hF with ⟨hb, hF⟩ | ⟨hb, hF⟩ <;> rw [hb]
        · refine st1 ?_
          obtain ⟨_, h, hF⟩ := e_bind hF
          (first | refine g_call h lv1 ?_ | refine g_callT h lv1 ?_)
          (conv => arg 1; whnf)
          refine st1 ?_
          rcases e_bif hF with ⟨hb, hF⟩ | ⟨hb, hF⟩ <;> rw [hb]
          · refine st1 ?_
            rcases e_bif hF with ⟨hb, hF⟩ | ⟨hb, hF⟩ <;> rw [hb]
            · refine st1 ?_
              rw [fl_thalweglaw01_RiverVolumes_27, eg_thalweglaw01_RiverVolumes_27, ag_thalweglaw01_RiverVolumes_27]
              (conv => arg 1; whnf)
              refine st1 ?_
              rcases e_bif hF with ⟨hb, hF⟩ | ⟨hb, hF⟩ <;> rw [hb]
              · refine st1 ?_
                obtain ⟨_, h, hF⟩ := e_bind hF
                (first | refine g_call h lv1 ?_ | refine g_callT h lv1 ?_)
                (conv => arg 1; whnf)
                refine st1 ?_
                have hq : some _ = some _ := hF
                cases hq
                exact en1
              · refine st1 ?_
                have hq : some _ = some _ := hF
                cases hq
                exact en1
            · refine st1 ?_
              have hq : some _ = some _ := hF
              cases hq
              exact en1
          · refine st1 ?_
            obtain ⟨_, h, hF⟩ := e_bind hF
            (first | refine o_ia (enc := (eS eTBounds)) (s := 1) h (fun _ => rfl) (by decide) ?_ | refine o_iaT (enc := (eS eTBounds)) (s := 1) h (fun _ => rfl) (by decide) ?_)
            intro _
            refine st1 ?_
            rcases e_bif hF with ⟨hb, hF⟩ | ⟨hb, hF⟩ <;> rw [hb]
            · refine st1 ?_
              rcases e_bif hF with ⟨hb, hF⟩ | ⟨hb, hF⟩ <;> rw [hb]
              · refine st1 ?_
                rw [fl_thalweglaw01_RiverVolumes_27, eg_thalweglaw01_RiverVolumes_27, ag_thalweglaw01_RiverVolumes_27]
                (conv => arg 1; whnf)
                refine st1 ?_
                rcases e_bif hF with ⟨hb, hF⟩ | ⟨hb, hF⟩ <;> rw [hb]
                · refine st1 ?_
                  obtain ⟨_, h, hF⟩ := e_bind hF
                  (first | refine g_call h lv1 ?_ | refine g_callT h lv1 ?_)
                  (conv => arg 1; whnf)
                  refine st1 ?_
                  have hq : some _ = some _ := hF
                  cases hq
                  exact en1
                · refine st1 ?_
                  have hq : some _ = some _ := hF
                  cases hq
                  exact en1
              · refine st1 ?_
                have hq : some _ = some _ := hF
                cases hq
                exact en1
            · refine st1 ?_
              rcases e_bif hF with ⟨hb, hF⟩ | ⟨hb, hF⟩ <;> rw [hb]
              · refine st1 ?_
                rcases e_bif hF with ⟨hb, hF⟩ | ⟨hb, hF⟩ <;> rw [hb]
                · refine st1 ?_
                  rw [fl_thalweglaw01_RiverVolumes_27, eg_thalweglaw01_RiverVolumes_27, ag_thalweglaw01_RiverVolumes_27]
                  (conv => arg 1; whnf)
                  refine st1 ?_
                  rcases e_bif hF with ⟨hb, hF⟩ | ⟨hb, hF⟩ <;> rw [hb]
                  · refine st1 ?_
                    obtain ⟨_, h, hF⟩ := e_bind hF
                    (first | refine g_call h lv1 ?_ | refine g_callT h lv1 ?_)
                    (conv => arg 1; whnf)
                    refine st1 ?_
                    have hq : some _ = some _ := hF
                    cases hq
                    exact en1
                  · refine st1 ?_
                    have hq : some _ = some _ := hF
                    cases hq
                    exact en1
                · refine st1 ?_
                  have hq : some _ = some _ := hF
                  cases hq
                  exact en1
              · refine st1 ?_
                refine st_loopF (e_assoc hF) () [(0, _), (1, _), (21, _), (65, _)] ⟨sT, sS, by rfl, by rfl⟩ ?_
                · rintro n ⟨_, _, _⟩ _ x hx1 hF
                  (conv => arg 7; whnf); (conv => arg 8; whnf); (conv => arg 9; whnf)
                  refine st1 ?_
                  rcases e_bif hF with ⟨hb, hF⟩ | ⟨hb, hF⟩ <;> rw [hb]
                  · refine st1 ?_
                    obtain ⟨_, h, hF⟩ := e_bind hF
                    (first | refine g_call h lv1 ?_ | refine g_callT h lv1 ?_)
                    (conv => arg 1; whnf)
                    refine st1 ?_
                    exact k_loopF (e_some hF) hx1 () [(0, _), (1, _), (21, _), (65, _)] ⟨sT, sS, by rfl, by rfl⟩
                  · refine st1 ?_
                    have hF := e_some hF
                    rcases e_bif hF with ⟨hb, hF⟩ | ⟨hb, hF⟩ <;> rw [hb]
                    · refine st1 ?_
                      rw [fl_thalweglaw01_RiverVolumes_27, eg_thalweglaw01_RiverVolumes_27, ag_thalweglaw01_RiverVolumes_27]
                      (conv => arg 1; whnf)
                      refine st1 ?_
                      rcases e_bif hF with ⟨hb, hF⟩ | ⟨hb, hF⟩ <;> rw [hb]
                      · refine st1 ?_
                        obtain ⟨_, h, hF⟩ := e_bind hF
                        (first | refine g_call h lv1 ?_ | refine g_callT h lv1 ?_)
                        (conv => arg 1; whnf)
                        refine st1 ?_
                        have hq : some _ = some _ := hF
                        cases hq
                        exact en1
                      · refine st1 ?_
                        have hq : some _ = some _ := hF
                        cases hq
                        exact en1
                    · refine st1 ?_
                      have hq : some _ = some _ := hF
                      cases hq
                      exact en1
        · refine st1 ?_
          rcases e_bif hF with ⟨hb, hF⟩ | ⟨hb, hF⟩ <;> rw [hb]
          · refine st1 ?_
            rcases e_bif hF with ⟨hb, hF⟩ | ⟨hb, hF⟩ <;> rw [hb]
            · refine st1 ?_
              rw [fl_thalweglaw01_RiverVolumes_27, eg_thalweglaw01_RiverVolumes_27, ag_thalweglaw01_RiverVolumes_27]
              (conv => arg 1; whnf)
              refine st1 ?_
              rcases e_bif hF with ⟨hb, hF⟩ | ⟨hb, hF⟩ <;> rw [hb]
              · refine st1 ?_
                obtain ⟨_, h, hF⟩ := e_bind hF
                (first | refine g_call h lv1 ?_ | refine g_callT h lv1 ?_)
                (conv => arg 1; whnf)
                refine st1 ?_
                have hq : some _ = some _ := hF
                cases hq
                exact en1
              · refine st1 ?_
                have hq : some _ = some _ := hF
                cases hq
                exact en1
            · refine st1 ?_
              have hq : some _ = some _ := hF
              cases hq
              exact en1
          · refine st1 ?_
            refine st_loopF (e_assoc hF) () [(0, _), (1, _), (21, _), (65, _)] ⟨sT, sS, by rfl, by rfl⟩ ?_
            · rintro n ⟨_, _, _⟩ _ x hx1 hF
              (conv => arg 7; whnf); (conv => arg 8; whnf); (conv => arg 9; whnf)
              refine st1 ?_
              rcases e_bif hF with ⟨hb, hF⟩ | ⟨hb, hF⟩ <;> rw [hb]
              · refine st1 ?_
                obtain ⟨_, h, hF⟩ := e_bind hF
                (first | refine g_call h lv1 ?_ | refine g_callT h lv1 ?_)
                (conv => arg 1; whnf)
                refine st1 ?_
                exact k_loopF (e_some hF) hx1 () [(0, _), (1, _), (21, _), (65, _)] ⟨sT, sS, by rfl, by rfl⟩
              · refine st1 ?_
                have hF := e_some hF
                rcases e_bif hF with ⟨hb, hF⟩ | ⟨hb, hF⟩ <;> rw [hb]
                · refine st1 ?_
                  rw [fl_thalweglaw01_RiverVolumes_27, eg_thalweglaw01_RiverVolumes_27, ag_thalweglaw01_RiverVolumes_27]
                  (conv => arg 1; whnf)
                  refine st1 ?_
                  rcases e_bif hF with ⟨hb, hF⟩ | ⟨hb, hF⟩ <;> rw [hb]
                  · refine st1 ?_
                    obtain ⟨_, h, hF⟩ := e_bind hF
                    (first | refine g_call h lv1 ?_ | refine g_callT h lv1 ?_)
                    (conv => arg 1; whnf)
                    refine st1 ?_
                    have hq : some _ = some _ := hF
                    cases hq
                    exact en1
                  · refine st1 ?_
                    have hq : some _ = some _ := hF
                    cases hq
                    exact en1
                · refine st1 ?_
                  have hq : some _ = some _ := hF
                  cases hq
                  exact en1
    · refine st1 ?_
      rcases e_bif hF with ⟨hb, hF⟩ | ⟨hb, hF⟩ <;> rw [hb]
      · refine st1 ?_
        obtain ⟨_, h, hF⟩ := e_bind hF
        (first | refine g_call h lv1 ?_ | refine g_callT h lv1 ?_)
        (conv => arg 1; whnf)
        refine st1 ?_
        rcases e_bif hF with ⟨hb, hF⟩ | ⟨hb, hF⟩ <;> rw [hb]
        · refine st1 ?_
          rcases e_bif hF with ⟨hb, hF⟩ | ⟨hb, hF⟩ <;> rw [hb]
          · refine st1 ?_
            rw [fl_thalweglaw01_RiverVolumes_27, eg_thalweglaw01_RiverVolumes_27, ag_thalweglaw01_RiverVolumes_27]
            (conv => arg 1; whnf)
            refine st1 ?_
            rcases e_bif hF with ⟨hb, hF⟩ | ⟨hb, hF⟩ <;> rw [hb]
            · refine st1 ?_
              obtain ⟨_, h, hF⟩ := e_bind hF
              (first | refine g_call h lv1 ?_ | refine g_callT h lv1 ?_)
              (conv => arg 1; whnf)
              refine st1 ?_
              have hq : some _ = some _ := hF
              cases hq
              exact en1
            · refine st1 ?_
              have hq : some _ = some _ := hF
              cases hq
              exact en1
          · refine st1 ?_
            have hq : some _ = some _ := hF
            cases hq
            exact en1
        · refine st1 ?_
          obtain ⟨_, h, hF⟩ := e_bind hF
          (first | refine o_ia (enc := (eS eTBounds)) (s := 1) h (fun _ => rfl) (by decide) ?_ | refine o_iaT (enc := (eS eTBounds)) (s := 1) h (fun _ => rfl) (by decide) ?_)
          intro _
          refine st1 ?_
          rcases e_bif hF with ⟨hb, hF⟩ | ⟨hb, hF⟩ <;> rw [hb]
          · refine st1 ?_
            rcases e_bif hF with ⟨hb, hF⟩ | ⟨hb, hF⟩ <;> rw [hb]
            · refine st1 ?_
              rw [fl_thalweglaw01_RiverVolumes_27, eg_thalweglaw01_RiverVolumes_27, ag_thalweglaw01_RiverVolumes_27]
              (conv => arg 1; whnf)
              refine st1 ?_
              rcases e_bif hF with ⟨hb, hF⟩ | ⟨hb, hF⟩ <;> rw [hb]
              · refine st1 ?_
                obtain ⟨_, h, hF⟩ := e_bind hF
                (first | refine g_call h lv1 ?_ | refine g_callT h lv1 ?_)
                (conv => arg 1; whnf)
                refine st1 ?_
                have hq : some _ = some _ := hF
                cases hq
                exact en1
              · refine st1 ?_
                have hq : some _ = some _ := hF
                cases hq
                exact en1
            · refine st1 ?_
              have hq : some _ = some _ := hF
              cases hq
              exact en1
          · refine st1 ?_
            rcases e_bif hF with ⟨hb, hF⟩ | ⟨hb, hF⟩ <;> rw [hb]
            · refine st1 ?_
              rcases e_bif hF with ⟨hb, hF⟩ | ⟨hb, hF⟩ <;> rw [hb]
              · refine st1 ?_
                rw [fl_thalweglaw01_RiverVolumes_27, eg_thalweglaw01_RiverVolumes_27, ag_thalweglaw01_RiverVolumes_27]
                (conv => arg 1; whnf)
                refine st1 ?_
                rcases e_bif hF with ⟨hb, hF⟩ | ⟨hb, hF⟩ <;> rw [hb]
                · refine st1 ?_
                  obtain ⟨_, h, hF⟩ := e_bind hF
                  (first | refine g_call h lv1 ?_ | refine g_callT h lv1 ?_)
                  (conv => arg 1; whnf)
                  refine st1 ?_
                  have hq : some _ = some _ := hF
                  cases hq
                  exact en1
                · refine st1 ?_
                  have hq : some _ = some _ := hF
                  cases hq
                  exact en1
              · refine st1 ?_
                have hq : some _ = some _ := hF
                cases hq
                exact en1
            · refine st1 ?_
              refine st_loopF (e_assoc hF) () [(0, _), (1, _), (21, _), (65, _)] ⟨sT, sS, by rfl, by rfl⟩ ?_
              · rintro n ⟨_, _, _⟩ _ x hx1 hF
                (conv => arg 7; whnf); (conv => arg 8; whnf); (conv => arg 9; whnf)
                refine st1 ?_
                rcases e_bif hF with ⟨hb, hF⟩ | ⟨hb, hF⟩ <;> rw [hb]
                · refine st1 ?_
                  obtain ⟨_, h, hF⟩ := e_bind hF
                  (first | refine g_call h lv1 ?_ | refine g_callT h lv1 ?_)
                  (conv => arg 1; whnf)
                  refine st1 ?_
                  exact k_loopF (e_some hF) hx1 () [(0, _), (1, _), (21, _), (65, _)] ⟨sT, sS, by rfl, by rfl⟩
                · refine st1 ?_
                  have hF := e_some hF
                  rcases e_bif hF with ⟨hb, hF⟩ | ⟨hb, hF⟩ <;> rw [hb]
                  · refine st1 ?_
                    rw [fl_thalweglaw01_RiverVolumes_27, eg_thalweglaw01_RiverVolumes_27, ag_thalweglaw01_RiverVolumes_27]
                    (conv => arg 1; whnf)
                    refine st1 ?_
                    rcases e_bif hF with ⟨hb, hF⟩ | ⟨hb, hF⟩ <;> rw [hb]
                    · refine st1 ?_
                      obtain ⟨_, h, hF⟩ := e_bind hF
                      (first | refine g_call h lv1 ?_ | refine g_callT h lv1 ?_)
                      (conv => arg 1; whnf)
                      refine st1 ?_
                      have hq : some _ = some _ := hF
                      cases hq
                      exact en1
                    · refine st1 ?_
                      have hq : some _ = some _ := hF
                      cases hq
                      exact en1
                  · refine st1 ?_
                    have hq : some _ = some _ := hF
                    cases hq
                    exact en1
      · refine st1 ?_
        rcases e_bif hF with ⟨hb, hF⟩ | ⟨hb, hF⟩ <;> rw [hb]
        · refine st1 ?_
          rcases e_bif hF with ⟨hb, hF⟩ | ⟨hb, hF⟩ <;> rw [hb]
          · refine st1 ?_
            rw [fl_thalweglaw01_RiverVolumes_27, eg_thalweglaw01_RiverVolumes_27, ag_thalweglaw01_RiverVolumes_27]
            (conv => arg 1; whnf)
            refine st1 ?_
            rcases e_bif hF with ⟨hb, hF⟩ | ⟨hb, hF⟩ <;> rw [hb]
            · refine st1 ?_
              obtain ⟨_, h, hF⟩ := e_bind hF
              (first | refine g_call h lv1 ?_ | refine g_callT h lv1 ?_)
              (conv => arg 1; whnf)
              refine st1 ?_
              have hq : some _ = some _ := hF
              cases hq
              exact en1
            · refine st1 ?_
              have hq : some _ = some _ := hF
              cases hq
              exact en1
          · refine st1 ?_
            have hq : some _ = some _ := hF
            cases hq
            exact en1
        · refine st1 ?_
          refine st_loopF (e_assoc hF) () [(0, _), (1, _), (21, _), (65, _)] ⟨sT, sS, by rfl, by rfl⟩ ?_
          · rintro n ⟨_, _, _⟩ _ x hx1 hF
            (conv => arg 7; whnf); (conv => arg 8; whnf); (conv => arg 9; whnf)
            refine st1 ?_
            rcases e_bif hF with ⟨hb, hF⟩ | ⟨hb, hF⟩ <;> rw [hb]
            · refine st1 ?_
              obtain ⟨_, h, hF⟩ := e_bind hF
              (first | refine g_call h lv1 ?_ | refine g_callT h lv1 ?_)
              (conv => arg 1; whnf)
              refine st1 ?_
              exact k_loopF (e_some hF) hx1 () [(0, _), (1, _), (21, _), (65, _)] ⟨sT, sS, by rfl, by rfl⟩
            · refine st1 ?_
              have hF := e_some hF
              rcases e_bif hF with ⟨hb, hF⟩ | ⟨hb, hF⟩ <;> rw [hb]
              · refine st1 ?_
                rw [fl_thalweglaw01_RiverVolumes_27, eg_thalweglaw01_RiverVolumes_27, ag_thalweglaw01_RiverVolumes_27]
                (conv => arg 1; whnf)
                refine st1 ?_
                rcases e_bif hF with ⟨hb, hF⟩ | ⟨hb, hF⟩ <;> rw [hb]
                · refine st1 ?_
                  obtain ⟨_, h, hF⟩ := e_bind hF
                  (first | refine g_call h lv1 ?_ | refine g_callT h lv1 ?_)
                  (conv => arg 1; whnf)
                  refine st1 ?_
                  have hq : some _ = some _ := hF
                  cases hq
                  exact en1
                · refine st1 ?_
                  have hq : some _ = some _ := hF
                  cases hq
                  exact en1
              · refine st1 ?_
                have hq : some _ = some _ := hF
                cases hq
                exact en1

end Go.Ev
/- The functions do what is said. -/
set_option linter.unusedVariables false
set_option linter.unusedSimpArgs false
namespace Go.Ev
open Go.Proofs
set_option maxHeartbeats 1000000
set_option maxRecDepth 100000
@[reducible] noncomputable def c_numbers_Down : Con := conF F_numbers_Down (fun x => match x with | (a0, a1) => [(V.v (.int .i64 (a0))), (V.v (.int .i64 (a1)))]) (fun r => (V.v (.int .i64 (r))))
theorem h_numbers_Down : Has Try.prog 69 c_numbers_Down := by
  refine hasF ctx_nil mix Try.func69 rfl (by kernel_rfl) ?_
  rintro ⟨a0, a1⟩ r hF
  refine ⟨of_decide_eq_true rfl, ?_⟩
  refine st1 ?_
  obtain ⟨_, h, hF⟩ := e_bind hF
  (first | refine go_req (nz_ne h) ?_ | refine goT_req (nz_ne h) ?_)
  (conv => arg 1; whnf)
  refine st1 ?_
  rcases e_bif hF with ⟨hb1, hF⟩ | ⟨hb1, hF⟩ <;> rw [hb1]
  · refine st1 ?_
    obtain ⟨_, h, hF⟩ := e_bind hF
    (first | refine go_req (nz_ne h) ?_ | refine goT_req (nz_ne h) ?_)
    (conv => arg 1; whnf)
    refine st1 ?_
    have hq : some _ = some _ := hF
    cases hq
    exact en1
  · refine st1 ?_
    obtain ⟨_, h, hF⟩ := e_bind hF
    (first | refine go_req (nz_ne h) ?_ | refine goT_req (nz_ne h) ?_)
    (conv => arg 1; whnf)
    refine st1 ?_
    have hq : some _ = some _ := hF
    cases hq
    exact en1


@[reducible] noncomputable def c_numbers_Up : Con := conF F_numbers_Up (fun x => match x with | (a0, a1) => [(V.v (.int .i64 (a0))), (V.v (.int .i64 (a1)))]) (fun r => (V.v (.int .i64 (r))))
theorem h_numbers_Up : Has Try.prog 70 c_numbers_Up := by
  refine hasF (ctx_cons h_numbers_Down ctx_nil) mix Try.func70 rfl (by kernel_rfl) ?_
  rintro ⟨a0, a1⟩ r hF
  refine ⟨of_decide_eq_true rfl, ?_⟩
  refine st1 ?_
  obtain ⟨_, h, hF⟩ := e_bind hF
  (first | refine g_call h lv1 ?_ | refine g_callT h lv1 ?_)
  (conv => arg 1; whnf)
  refine st1 ?_
  have hq : some _ = some _ := hF
  cases hq
  exact en1


@[reducible] noncomputable def c_slices_IndexFunc_L_RateRow_RateRow (C : FuncId → Option Con) : Con := conK F_slices_IndexFunc_L_RateRow_RateRow (fun x => match x with | (a0, a1, g, caps) => [(V.sl (recs eTRateRow (a0)) (a0).length), (V.fn g caps)]) (fun x => match x with | (a0, a1, g, caps) => Callable (ext C []) g caps (fun x => match x with | (q0) => [(V.agg (eTRateRow q0))]) (fun r => (V.v (.bool (r)))) a1) (fun r => (V.v (.int .i64 (r))))
theorem h_slices_IndexFunc_L_RateRow_RateRow {C : FuncId → Option Con} (hC : CtxOK Try.prog C) : Has Try.prog 104 (c_slices_IndexFunc_L_RateRow_RateRow C) := by
  refine hasK (ext_nil hC) mix Try.func104 rfl (by kernel_rfl) ?_
  rintro ⟨a0, a1, g, caps⟩ r hcl hF
  obtain ⟨hcaps, c, hc, hce, hcall⟩ := id hcl
  refine ⟨of_decide_eq_true rfl, ?_⟩
  refine st1 ?_
  refine st_loopF (e_assoc hF) () [] ⟨sT, sS, by rfl, by rfl⟩ ?_
  · rintro n _ _ x hx1 hF
    (conv => arg 7; whnf); (conv => arg 8; whnf); (conv => arg 9; whnf)
    refine st1 ?_
    rcases e_bif hF with ⟨hb5, hF⟩ | ⟨hb5, hF⟩ <;> rw [hb5]
    · refine st1 ?_
      obtain ⟨_, h, hF⟩ := e_bind hF
      (first | refine o_ia (enc := eTRateRow) (s := 2) h (fun _ => rfl) (by decide) ?_ | refine o_iaT (enc := eTRateRow) (s := 2) h (fun _ => rfl) (by decide) ?_)
      intro _
      refine st1 ?_
      obtain ⟨_, h, hF⟩ := e_bind hF
      rw [hc]
      (conv => arg 1; whnf)
      rw [hce]
      (conv => arg 1; whnf)
      (first | refine go_map hcaps rfl ?_ | refine goT_map hcaps rfl ?_)
      (conv => arg 1; whnf)
      obtain ⟨z, hz1, hz2, hz3⟩ := hcall _ _ h
      (first | refine go_exi z ⟨levs_eq hz1.symm, hz2⟩ ?_ | refine goT_exi z ⟨levs_eq hz1.symm, hz2⟩ ?_)
      rw [hz3]
      (conv => arg 1; whnf)
      refine st1 ?_
      rcases e_bif hF with ⟨hb6, hF⟩ | ⟨hb6, hF⟩ <;> rw [hb6]
      · refine st1 ?_
        have hF := e_some hF
        have hq : some _ = some _ := hF
        cases hq
        exact en1
      · refine st1 ?_
        exact k_loopF (e_some hF) hx1 () [] ⟨sT, sS, by rfl, by rfl⟩
    · refine st1 ?_
      have hF := e_some hF
      have hq : some _ = some _ := hF
      cases hq
      exact en1


@[reducible] noncomputable def c_river_curveAt_1 : Con := conF F_river_curveAt_1 (fun x => match x with | (a0, c0) => [(V.agg (eTRateRow a0)), (V.fptr [(V.v (.int .i64 (c0)))])]) (fun r => (V.v (.bool (r))))
theorem h_river_curveAt_1 : Has Try.prog 105 c_river_curveAt_1 := by
  refine hasF ctx_nil mix Try.func105 rfl (by kernel_rfl) ?_
  rintro ⟨a0, c0⟩ r hF
  refine ⟨of_decide_eq_true rfl, ?_⟩
  refine st1 ?_
  have hq : some _ = some _ := hF
  cases hq
  exact en1


@[reducible] noncomputable def c_river_curveAt (C : FuncId → Option Con) : Con := conK F_river_curveAt (fun x => match x with | (a0, a1, a2, g, caps) => [(V.sl (recs eTRateRow (a0)) (a0).length), (V.v (.int .i64 (a1))), (V.fn g caps)]) (fun x => match x with | (a0, a1, a2, g, caps) => Callable (ext C [(104, c_slices_IndexFunc_L_RateRow_RateRow (ctx [(105, c_river_curveAt_1)]))]) g caps (fun x => match x with | (q0, q1) => [(V.v (.int .i64 (q0))), (V.v (.int .i64 (q1)))]) (fun r => (V.v (.int .i64 (r)))) a2) (fun r => (V.v (.int .i64 (r))))
theorem h_river_curveAt {C : FuncId → Option Con} (hC : CtxOK Try.prog C) : Has Try.prog 91 (c_river_curveAt C) := by
  refine hasK (ext_cons (h_slices_IndexFunc_L_RateRow_RateRow (ctx_cons h_river_curveAt_1 ctx_nil)) (ext_nil hC)) mix Try.func91 rfl (by kernel_rfl) ?_
  rintro ⟨a0, a1, a2, g, caps⟩ r hcl hF
  obtain ⟨hcaps, c, hc, hce, hcall⟩ := id hcl
  refine ⟨of_decide_eq_true rfl, ?_⟩
  refine st1 ?_
  obtain ⟨_, h, hF⟩ := e_bind hF
  (first | refine g_hcall h lv1 (callable_conF rfl rfl (fun _ => rfl)) ?_ | refine g_hcallT h lv1 (callable_conF rfl rfl (fun _ => rfl)) ?_)
  (conv => arg 1; whnf)
  refine st1 ?_
  rcases e_bif hF with ⟨hb1, hF⟩ | ⟨hb1, hF⟩ <;> rw [hb1]
  · refine st1 ?_
    obtain ⟨_, h, hF⟩ := e_bind hF
    (first | refine o_ia (enc := eTRateRow) (s := 2) h (fun _ => rfl) (by decide) ?_ | refine o_iaT (enc := eTRateRow) (s := 2) h (fun _ => rfl) (by decide) ?_)
    intro _
    refine st1 ?_
    have hq : some _ = some _ := hF
    cases hq
    exact en1
  · refine st1 ?_
    rcases e_bif hF with ⟨hb2, hF⟩ | ⟨hb2, hF⟩ <;> rw [hb2]
    · refine st1 ?_
      obtain ⟨_, h, hF⟩ := e_bind hF
      (first | refine o_ia (enc := eTRateRow) (s := 2) h (fun _ => rfl) (by decide) ?_ | refine o_iaT (enc := eTRateRow) (s := 2) h (fun _ => rfl) (by decide) ?_)
      intro _
      refine st1 ?_
      have hq : some _ = some _ := hF
      cases hq
      exact en1
    · refine st1 ?_
      obtain ⟨_, h, hF⟩ := e_bind hF
      (first | refine o_ia (enc := eTRateRow) (s := 2) h (fun _ => rfl) (by decide) ?_ | refine o_iaT (enc := eTRateRow) (s := 2) h (fun _ => rfl) (by decide) ?_)
      intro _
      refine st1 ?_
      obtain ⟨_, h, hF⟩ := e_bind hF
      (first | refine o_ia (enc := eTRateRow) (s := 2) h (fun _ => rfl) (by decide) ?_ | refine o_iaT (enc := eTRateRow) (s := 2) h (fun _ => rfl) (by decide) ?_)
      intro _
      refine st1 ?_
      obtain ⟨_, h, hF⟩ := e_bind hF
      rw [hc]
      (conv => arg 1; whnf)
      rw [hce]
      (conv => arg 1; whnf)
      (first | refine go_map hcaps rfl ?_ | refine goT_map hcaps rfl ?_)
      (conv => arg 1; whnf)
      obtain ⟨z, hz1, hz2, hz3⟩ := hcall _ _ h
      (first | refine go_exi z ⟨levs_eq hz1.symm, hz2⟩ ?_ | refine goT_exi z ⟨levs_eq hz1.symm, hz2⟩ ?_)
      rw [hz3]
      (conv => arg 1; whnf)
      refine st1 ?_
      have hq : some _ = some _ := hF
      cases hq
      exact en1


@[reducible] noncomputable def c_river_levelAt : Con := conF F_river_levelAt (fun x => match x with | (a0, a1) => [(V.agg (eTReach a0)), (V.agg (eTBounds a1))]) (fun r => (V.agg (eTBounds r)))
theorem h_river_levelAt : Has Try.prog 64 c_river_levelAt := by
  refine hasF (ctx_cons (h_river_curveAt (ctx_cons h_numbers_Up (ctx_cons h_numbers_Down ctx_nil))) ctx_nil) mix Try.func64 rfl (by kernel_rfl) ?_
  rintro ⟨a0, a1⟩ r hF
  refine ⟨of_decide_eq_true rfl, ?_⟩
  refine st1 ?_
  obtain ⟨_, h, hF⟩ := e_bind hF
  (first | refine g_hcall h lv1 (callable_conF rfl rfl (fun _ => rfl)) ?_ | refine g_hcallT h lv1 (callable_conF rfl rfl (fun _ => rfl)) ?_)
  (conv => arg 1; whnf)
  refine st1 ?_
  obtain ⟨_, h, hF⟩ := e_bind hF
  (first | refine g_hcall h lv1 (callable_conF rfl rfl (fun _ => rfl)) ?_ | refine g_hcallT h lv1 (callable_conF rfl rfl (fun _ => rfl)) ?_)
  (conv => arg 1; whnf)
  refine st1 ?_
  have hq : some _ = some _ := hF
  cases hq
  exact en1


@[reducible] noncomputable def c_river_stream_level : Con := conF F_river_stream_level (fun x => match x with | (a0, a1, a2) => [(V.agg (eTriver_stream a0)), (V.v (.int .i64 (a1))), (V.v (.int .i64 (a2)))]) (fun r => (V.agg (eTBounds r)))
theorem h_river_stream_level : Has Try.prog 76 c_river_stream_level := by
  refine hasF (ctx_cons h_river_levelAt ctx_nil) mix Try.func76 rfl (by kernel_rfl) ?_
  rintro ⟨a0, a1, a2⟩ r hF
  refine ⟨of_decide_eq_true rfl, ?_⟩
  refine st1 ?_
  obtain ⟨_, h, hF⟩ := e_bind hF
  (first | refine o_ia (enc := eTReach) (s := 9) h (fun _ => rfl) (by decide) ?_ | refine o_iaT (enc := eTReach) (s := 9) h (fun _ => rfl) (by decide) ?_)
  intro _
  refine st1 ?_
  obtain ⟨_, h, hF⟩ := e_bind hF
  (first | refine o_ia (enc := (eS eTBounds)) (s := 1) h (fun _ => rfl) (by decide) ?_ | refine o_iaT (enc := (eS eTBounds)) (s := 1) h (fun _ => rfl) (by decide) ?_)
  intro _
  refine st1 ?_
  obtain ⟨_, h, hF⟩ := e_bind hF
  (first | refine o_ia (enc := eTBounds) (s := 2) h (fun _ => rfl) (by decide) ?_ | refine o_iaT (enc := eTBounds) (s := 2) h (fun _ => rfl) (by decide) ?_)
  intro _
  refine st1 ?_
  obtain ⟨_, h, hF⟩ := e_bind hF
  (first | refine g_call h lv1 ?_ | refine g_callT h lv1 ?_)
  (conv => arg 1; whnf)
  refine st1 ?_
  have hq : some _ = some _ := hF
  cases hq
  exact en1


@[reducible] noncomputable def c_river_stream_findAt : Con := conF F_river_stream_findAt (fun x => match x with | (a0, a1, a2) => [(V.agg (eTriver_stream a0)), (V.v (.int .i64 (a1))), (V.v (.int .i64 (a2)))]) (fun r => V.tup [(V.agg (eTriver_site r.1)), (V.v (.int .i64 (r.2)))])
theorem h_river_stream_findAt : Has Try.prog 79 c_river_stream_findAt := by
  refine hasF (ctx_cons h_river_find (ctx_cons h_river_stream_hours (ctx_cons h_numbers_Within ctx_nil))) mix Try.func79 rfl (by kernel_rfl) ?_
  rintro ⟨a0, a1, a2⟩ r hF
  refine ⟨of_decide_eq_true rfl, ?_⟩
  refine st1 ?_
  obtain ⟨_, h, hF⟩ := e_bind hF
  (first | refine g_call h lv1 ?_ | refine g_callT h lv1 ?_)
  (conv => arg 1; whnf)
  refine st1 ?_
  rcases e_bif hF with ⟨hb1, hF⟩ | ⟨hb1, hF⟩ <;> rw [hb1]
  · refine st1 ?_
    have hq : some _ = some _ := hF
    cases hq
    exact en1
  · refine st1 ?_
    obtain ⟨_, h, hF⟩ := e_bind hF
    (first | refine g_call h lv1 ?_ | refine g_callT h lv1 ?_)
    (conv => arg 1; whnf)
    refine st1 ?_
    obtain ⟨_, h, hF⟩ := e_bind hF
    (first | refine g_call h lv1 ?_ | refine g_callT h lv1 ?_)
    (conv => arg 1; whnf)
    refine st1 ?_
    rcases e_bif hF with ⟨hb2, hF⟩ | ⟨hb2, hF⟩ <;> rw [hb2]
    · refine st1 ?_
      have hq : some _ = some _ := hF
      cases hq
      exact en1
    · refine st1 ?_
      have hq : some _ = some _ := hF
      cases hq
      exact en1


@[reducible] noncomputable def c_river_checkClosures_1 : Con := conF F_river_checkClosures_1 (fun x => match x with | (a0) => [(V.agg (eTBounds a0))]) (fun r => (V.v (.bool (r))))
theorem h_river_checkClosures_1 : Has Try.prog 97 c_river_checkClosures_1 := by
  refine hasF (ctx_cons h_numbers_Valid ctx_nil) mix Try.func97 rfl (by kernel_rfl) ?_
  rintro a0 r hF
  refine ⟨of_decide_eq_true rfl, ?_⟩
  refine st1 ?_
  obtain ⟨_, h, hF⟩ := e_bind hF
  (first | refine g_call h lv1 ?_ | refine g_callT h lv1 ?_)
  (conv => arg 1; whnf)
  refine st1 ?_
  have hq : some _ = some _ := hF
  cases hq
  exact en1


@[reducible] noncomputable def c_numbers_Every_Closure (C : FuncId → Option Con) : Con := conK F_numbers_Every_Closure (fun x => match x with | (a0, a1, g, caps) => [(V.sl (recs eTClosure (a0)) (a0).length), (V.fn g caps)]) (fun x => match x with | (a0, a1, g, caps) => Callable (ext C []) g caps (fun x => match x with | (q0) => [(V.agg (eTClosure q0))]) (fun r => (V.v (.bool (r)))) a1) (fun r => (V.v (.bool (r))))
theorem h_numbers_Every_Closure {C : FuncId → Option Con} (hC : CtxOK Try.prog C) : Has Try.prog 98 (c_numbers_Every_Closure C) := by
  refine hasK (ext_nil hC) mix Try.func98 rfl (by kernel_rfl) ?_
  rintro ⟨a0, a1, g, caps⟩ r hcl hF
  obtain ⟨hcaps, c, hc, hce, hcall⟩ := id hcl
  refine ⟨of_decide_eq_true rfl, ?_⟩
  refine st1 ?_
  refine st_loopF (e_assoc hF) () [] ⟨sT, sS, by rfl, by rfl⟩ ?_
  · rintro n _ _ x hx1 hF
    (conv => arg 7; whnf); (conv => arg 8; whnf); (conv => arg 9; whnf)
    refine st1 ?_
    rcases e_bif hF with ⟨hb5, hF⟩ | ⟨hb5, hF⟩ <;> rw [hb5]
    · refine st1 ?_
      obtain ⟨_, h, hF⟩ := e_bind hF
      (first | refine o_ia (enc := eTClosure) (s := 6) h (fun _ => rfl) (by decide) ?_ | refine o_iaT (enc := eTClosure) (s := 6) h (fun _ => rfl) (by decide) ?_)
      intro _
      refine st1 ?_
      obtain ⟨_, h, hF⟩ := e_bind hF
      rw [hc]
      (conv => arg 1; whnf)
      rw [hce]
      (conv => arg 1; whnf)
      (first | refine go_map hcaps rfl ?_ | refine goT_map hcaps rfl ?_)
      (conv => arg 1; whnf)
      obtain ⟨z, hz1, hz2, hz3⟩ := hcall _ _ h
      (first | refine go_exi z ⟨levs_eq hz1.symm, hz2⟩ ?_ | refine goT_exi z ⟨levs_eq hz1.symm, hz2⟩ ?_)
      rw [hz3]
      (conv => arg 1; whnf)
      refine st1 ?_
      rcases e_bif hF with ⟨hb6, hF⟩ | ⟨hb6, hF⟩ <;> rw [hb6]
      · refine st1 ?_
        have hF := e_some hF
        have hq : some _ = some _ := hF
        cases hq
        exact en1
      · refine st1 ?_
        exact k_loopF (e_some hF) hx1 () [] ⟨sT, sS, by rfl, by rfl⟩
    · refine st1 ?_
      have hF := e_some hF
      have hq : some _ = some _ := hF
      cases hq
      exact en1


@[reducible] noncomputable def c_river_checkClosures_2 (C : FuncId → Option Con) : Con := conK F_river_checkClosures_2 (fun x => match x with | (a0, c0, c1, g, caps) => [(V.agg (eTClosure a0)), (V.fptr [(V.sl (recs eTReach (c0.Reaches)) (c0.Reaches).length), (V.sl (recs eTShoal (c0.Shoals)) (c0.Shoals).length)]), (V.fptr [(V.fn g caps)])]) (fun x => match x with | (a0, c0, c1, g, caps) => Callable (ext C [(77, c_river_find)]) g caps (fun x => match x with | (q0) => [(V.agg (eTBounds q0))]) (fun r => (V.v (.bool (r)))) c1) (fun r => (V.v (.bool (r))))
theorem h_river_checkClosures_2 {C : FuncId → Option Con} (hC : CtxOK Try.prog C) : Has Try.prog 99 (c_river_checkClosures_2 C) := by
  refine hasK (ext_cons h_river_find (ext_nil hC)) mix Try.func99 rfl (by kernel_rfl) ?_
  rintro ⟨a0, c0, c1, g, caps⟩ r hcl hF
  obtain ⟨hcaps, c, hc, hce, hcall⟩ := id hcl
  refine ⟨of_decide_eq_true rfl, ?_⟩
  refine st1 ?_
  obtain ⟨_, h, hF⟩ := e_bind hF
  (first | refine g_call h lv1 ?_ | refine g_callT h lv1 ?_)
  (conv => arg 1; whnf)
  refine st1 ?_
  obtain ⟨_, h, hF⟩ := e_bind hF
  (first | refine g_call h lv1 ?_ | refine g_callT h lv1 ?_)
  (conv => arg 1; whnf)
  refine st1 ?_
  rcases e_bif hF with ⟨hb1, hF⟩ | ⟨hb1, hF⟩ <;> rw [hb1]
  · refine st1 ?_
    rcases e_bif hF with ⟨hb2, hF⟩ | ⟨hb2, hF⟩ <;> rw [hb2]
    · refine st1 ?_
      rcases e_bif hF with ⟨hb3, hF⟩ | ⟨hb3, hF⟩ <;> rw [hb3]
      · refine st1 ?_
        obtain ⟨_, h, hF⟩ := e_bind hF
        rw [hc]
        (conv => arg 1; whnf)
        rw [hce]
        (conv => arg 1; whnf)
        (first | refine go_map hcaps rfl ?_ | refine goT_map hcaps rfl ?_)
        (conv => arg 1; whnf)
        obtain ⟨z, hz1, hz2, hz3⟩ := hcall _ _ h
        (first | refine go_exi z ⟨levs_eq hz1.symm, hz2⟩ ?_ | refine goT_exi z ⟨levs_eq hz1.symm, hz2⟩ ?_)
        rw [hz3]
        (conv => arg 1; whnf)
        refine st1 ?_
        rcases e_bif hF with ⟨hb4, hF⟩ | ⟨hb4, hF⟩ <;> rw [hb4]
        · refine st1 ?_
          obtain ⟨_, h, hF⟩ := e_bind hF
          rw [hc]
          (conv => arg 1; whnf)
          rw [hce]
          (conv => arg 1; whnf)
          (first | refine go_map hcaps rfl ?_ | refine goT_map hcaps rfl ?_)
          (conv => arg 1; whnf)
          obtain ⟨z, hz1, hz2, hz3⟩ := hcall _ _ h
          (first | refine go_exi z ⟨levs_eq hz1.symm, hz2⟩ ?_ | refine goT_exi z ⟨levs_eq hz1.symm, hz2⟩ ?_)
          rw [hz3]
          (conv => arg 1; whnf)
          refine st1 ?_
          have hq : some _ = some _ := hF
          cases hq
          exact en1
        · refine st1 ?_
          have hq : some _ = some _ := hF
          cases hq
          exact en1
      · refine st1 ?_
        have hq : some _ = some _ := hF
        cases hq
        exact en1
    · refine st1 ?_
      have hq : some _ = some _ := hF
      cases hq
      exact en1
  · refine st1 ?_
    have hq : some _ = some _ := hF
    cases hq
    exact en1


@[reducible] noncomputable def c_river_checkClosures : Con := conF F_river_checkClosures (fun x => match x with | (a0, a1) => [(V.agg (eTRiver a0)), (V.sl (recs eTClosure (a1)) (a1).length)]) (fun r => (V.v (.int .i64 (r))))
theorem h_river_checkClosures : Has Try.prog 84 c_river_checkClosures := by
  refine hasF (ctx_cons (h_numbers_Every_Closure (ctx_cons (h_river_checkClosures_2 (ctx_cons h_river_checkClosures_1 ctx_nil)) ctx_nil)) ctx_nil) mix Try.func84 rfl (by kernel_rfl) ?_
  rintro ⟨a0, a1⟩ r hF
  refine ⟨of_decide_eq_true rfl, ?_⟩
  refine st1 ?_
  rcases e_bif hF with ⟨hb1, hF⟩ | ⟨hb1, hF⟩ <;> rw [hb1]
  · refine st1 ?_
    have hq : some _ = some _ := hF
    cases hq
    exact en1
  · refine st1 ?_
    obtain ⟨_, h, hF⟩ := e_bind hF
    (first | refine g_hcall h lv1 (callable_conK rfl rfl (fun _ => rfl) (fun _ => callable_conF rfl rfl (fun _ => rfl))) ?_ | refine g_hcallT h lv1 (callable_conK rfl rfl (fun _ => rfl) (fun _ => callable_conF rfl rfl (fun _ => rfl))) ?_)
    (conv => arg 1; whnf)
    refine st1 ?_
    rcases e_bif hF with ⟨hb2, hF⟩ | ⟨hb2, hF⟩ <;> rw [hb2]
    · refine st1 ?_
      have hq : some _ = some _ := hF
      cases hq
      exact en1
    · refine st1 ?_
      have hq : some _ = some _ := hF
      cases hq
      exact en1


@[reducible] noncomputable def c_slices_IndexFunc_L_Closure_Closure (C : FuncId → Option Con) : Con := conK F_slices_IndexFunc_L_Closure_Closure (fun x => match x with | (a0, a1, g, caps) => [(V.sl (recs eTClosure (a0)) (a0).length), (V.fn g caps)]) (fun x => match x with | (a0, a1, g, caps) => Callable (ext C []) g caps (fun x => match x with | (q0) => [(V.agg (eTClosure q0))]) (fun r => (V.v (.bool (r)))) a1) (fun r => (V.v (.int .i64 (r))))
theorem h_slices_IndexFunc_L_Closure_Closure {C : FuncId → Option Con} (hC : CtxOK Try.prog C) : Has Try.prog 100 (c_slices_IndexFunc_L_Closure_Closure C) := by
  refine hasK (ext_nil hC) mix Try.func100 rfl (by kernel_rfl) ?_
  rintro ⟨a0, a1, g, caps⟩ r hcl hF
  obtain ⟨hcaps, c, hc, hce, hcall⟩ := id hcl
  refine ⟨of_decide_eq_true rfl, ?_⟩
  refine st1 ?_
  refine st_loopF (e_assoc hF) () [] ⟨sT, sS, by rfl, by rfl⟩ ?_
  · rintro n _ _ x hx1 hF
    (conv => arg 7; whnf); (conv => arg 8; whnf); (conv => arg 9; whnf)
    refine st1 ?_
    rcases e_bif hF with ⟨hb5, hF⟩ | ⟨hb5, hF⟩ <;> rw [hb5]
    · refine st1 ?_
      obtain ⟨_, h, hF⟩ := e_bind hF
      (first | refine o_ia (enc := eTClosure) (s := 6) h (fun _ => rfl) (by decide) ?_ | refine o_iaT (enc := eTClosure) (s := 6) h (fun _ => rfl) (by decide) ?_)
      intro _
      refine st1 ?_
      obtain ⟨_, h, hF⟩ := e_bind hF
      rw [hc]
      (conv => arg 1; whnf)
      rw [hce]
      (conv => arg 1; whnf)
      (first | refine go_map hcaps rfl ?_ | refine goT_map hcaps rfl ?_)
      (conv => arg 1; whnf)
      obtain ⟨z, hz1, hz2, hz3⟩ := hcall _ _ h
      (first | refine go_exi z ⟨levs_eq hz1.symm, hz2⟩ ?_ | refine goT_exi z ⟨levs_eq hz1.symm, hz2⟩ ?_)
      rw [hz3]
      (conv => arg 1; whnf)
      refine st1 ?_
      rcases e_bif hF with ⟨hb6, hF⟩ | ⟨hb6, hF⟩ <;> rw [hb6]
      · refine st1 ?_
        have hF := e_some hF
        have hq : some _ = some _ := hF
        cases hq
        exact en1
      · refine st1 ?_
        exact k_loopF (e_some hF) hx1 () [] ⟨sT, sS, by rfl, by rfl⟩
    · refine st1 ?_
      have hF := e_some hF
      have hq : some _ = some _ := hF
      cases hq
      exact en1


@[reducible] noncomputable def c_slices_ContainsFunc_L_Closure_Closure (C : FuncId → Option Con) : Con := conK F_slices_ContainsFunc_L_Closure_Closure (fun x => match x with | (a0, a1, g, caps) => [(V.sl (recs eTClosure (a0)) (a0).length), (V.fn g caps)]) (fun x => match x with | (a0, a1, g, caps) => Callable (ext C []) g caps (fun x => match x with | (q0) => [(V.agg (eTClosure q0))]) (fun r => (V.v (.bool (r)))) a1 ∧ Callable (ext C [(100, c_slices_IndexFunc_L_Closure_Closure C)]) g caps (fun x => match x with | (q0) => [(V.agg (eTClosure q0))]) (fun r => (V.v (.bool (r)))) a1) (fun r => (V.v (.bool (r))))
theorem h_slices_ContainsFunc_L_Closure_Closure {C : FuncId → Option Con} (hC : CtxOK Try.prog C) : Has Try.prog 85 (c_slices_ContainsFunc_L_Closure_Closure C) := by
  refine hasK (ext_cons (h_slices_IndexFunc_L_Closure_Closure hC) (ext_nil hC)) mix Try.func85 rfl (by kernel_rfl) ?_
  rintro ⟨a0, a1, g, caps⟩ r ⟨hc0, hcl⟩ hF
  obtain ⟨hcaps, c, hc, hce, hcall⟩ := id hcl
  refine ⟨of_decide_eq_true rfl, ?_⟩
  refine st1 ?_
  obtain ⟨_, h, hF⟩ := e_bind hF
  (first | refine go_map hcaps rfl ?_ | refine goT_map hcaps rfl ?_)
  (conv => arg 1; whnf)
  (first | refine g_hcall h lv1 (by exact hc0) ?_ | refine g_hcallT h lv1 (by exact hc0) ?_)
  (conv => arg 1; whnf)
  refine st1 ?_
  have hq : some _ = some _ := hF
  cases hq
  exact en1


@[reducible] noncomputable def c_river_Closed_1 : Con := conF F_river_Closed_1 (fun x => match x with | (a0, c0, c1) => [(V.agg (eTClosure a0)), (V.fptr [(V.v (.int .i64 (c0)))]), (V.fptr [(V.v (.int .i64 (c1)))])]) (fun r => (V.v (.bool (r))))
theorem h_river_Closed_1 : Has Try.prog 86 c_river_Closed_1 := by
  refine hasF (ctx_cons h_numbers_Within ctx_nil) mix Try.func86 rfl (by kernel_rfl) ?_
  rintro ⟨a0, c0, c1⟩ r hF
  refine ⟨of_decide_eq_true rfl, ?_⟩
  refine st1 ?_
  obtain ⟨_, h, hF⟩ := e_bind hF
  (first | refine g_call h lv1 ?_ | refine g_callT h lv1 ?_)
  (conv => arg 1; whnf)
  refine st1 ?_
  rcases e_bif hF with ⟨hb1, hF⟩ | ⟨hb1, hF⟩ <;> rw [hb1]
  · refine st1 ?_
    rcases e_bif hF with ⟨hb2, hF⟩ | ⟨hb2, hF⟩ <;> rw [hb2]
    · refine st1 ?_
      have hq : some _ = some _ := hF
      cases hq
      exact en1
    · refine st1 ?_
      have hq : some _ = some _ := hF
      cases hq
      exact en1
  · refine st1 ?_
    have hq : some _ = some _ := hF
    cases hq
    exact en1


@[reducible] noncomputable def c_river_Closed_2 : Con := conF F_river_Closed_2 (fun x => match x with | (a0, c0, c1) => [(V.agg (eTClosure a0)), (V.fptr [(V.v (.int .i64 (c0)))]), (V.fptr [(V.v (.int .i64 (c1)))])]) (fun r => (V.v (.bool (r))))
theorem h_river_Closed_2 : Has Try.prog 87 c_river_Closed_2 := by
  refine hasF (ctx_cons h_numbers_Within ctx_nil) mix Try.func87 rfl (by kernel_rfl) ?_
  rintro ⟨a0, c0, c1⟩ r hF
  refine ⟨of_decide_eq_true rfl, ?_⟩
  refine st1 ?_
  obtain ⟨_, h, hF⟩ := e_bind hF
  (first | refine g_call h lv1 ?_ | refine g_callT h lv1 ?_)
  (conv => arg 1; whnf)
  refine st1 ?_
  rcases e_bif hF with ⟨hb1, hF⟩ | ⟨hb1, hF⟩ <;> rw [hb1]
  · refine st1 ?_
    rcases e_bif hF with ⟨hb2, hF⟩ | ⟨hb2, hF⟩ <;> rw [hb2]
    · refine st1 ?_
      have hq : some _ = some _ := hF
      cases hq
      exact en1
    · refine st1 ?_
      have hq : some _ = some _ := hF
      cases hq
      exact en1
  · refine st1 ?_
    have hq : some _ = some _ := hF
    cases hq
    exact en1


@[reducible] noncomputable def c_river_Closed : Con := conF F_river_Closed (fun x => match x with | (a0, a1, a2, a3, a4) => [(V.agg (eTRiver a0)), (V.sl (recs (eS eTBounds) (a1)) (a1).length), (V.sl (recs eTClosure (a2)) (a2).length), (V.v (.int .i64 (a3))), (V.v (.int .i64 (a4)))]) (fun r => V.tup [(V.v (.bool (r.1))), (V.v (.bool (r.2.1))), (V.v (.int .i64 (r.2.2)))])
theorem h_river_Closed : Has Try.prog 47 c_river_Closed := by
  refine hasF (ctx_cons (h_slices_ContainsFunc_L_Closure_Closure (ctx_cons h_river_Closed_2 (ctx_cons h_river_Closed_1 ctx_nil))) (ctx_cons h_river_checkClosures (ctx_cons h_river_stream_findAt (ctx_cons h_river_stream_level (ctx_cons h_river_run ctx_nil))))) mix Try.func47 rfl (by kernel_rfl) ?_
  rintro ⟨a0, a1, a2, a3, a4⟩ r hF
  refine ⟨of_decide_eq_true rfl, ?_⟩
  refine st1 ?_
  obtain ⟨_, h, hF⟩ := e_bind hF
  (first | refine g_call h lv1 ?_ | refine g_callT h lv1 ?_)
  (conv => arg 1; whnf)
  refine st1 ?_
  rcases e_bif hF with ⟨hb1, hF⟩ | ⟨hb1, hF⟩ <;> rw [hb1]
  · refine st1 ?_
    have hq : some _ = some _ := hF
    cases hq
    exact en1
  · refine st1 ?_
    obtain ⟨_, h, hF⟩ := e_bind hF
    (first | refine g_call h lv1 ?_ | refine g_callT h lv1 ?_)
    (conv => arg 1; whnf)
    refine st1 ?_
    rcases e_bif hF with ⟨hb2, hF⟩ | ⟨hb2, hF⟩ <;> rw [hb2]
    · refine st1 ?_
      have hq : some _ = some _ := hF
      cases hq
      exact en1
    · refine st1 ?_
      obtain ⟨_, h, hF⟩ := e_bind hF
      (first | refine g_call h lv1 ?_ | refine g_callT h lv1 ?_)
      (conv => arg 1; whnf)
      refine st1 ?_
      rcases e_bif hF with ⟨hb3, hF⟩ | ⟨hb3, hF⟩ <;> rw [hb3]
      · refine st1 ?_
        have hq : some _ = some _ := hF
        cases hq
        exact en1
      · refine st1 ?_
        obtain ⟨_, h, hF⟩ := e_bind hF
        (first | refine g_call h lv1 ?_ | refine g_callT h lv1 ?_)
        (conv => arg 1; whnf)
        refine st1 ?_
        rcases e_bif hF with ⟨hb4, hF⟩ | ⟨hb4, hF⟩ <;> rw [hb4]
        · refine st1 ?_
          rcases e_bif hF with ⟨hb5, hF⟩ | ⟨hb5, hF⟩ <;> rw [hb5]
          · refine st1 ?_
            have hq : some _ = some _ := hF
            cases hq
            exact en1
          · refine st1 ?_
            obtain ⟨_, h, hF⟩ := e_bind hF
            (first | refine g_hcall h lv1 ⟨callable_conF rfl rfl (fun _ => rfl), callable_conF rfl rfl (fun _ => rfl)⟩ ?_ | refine g_hcallT h lv1 ⟨callable_conF rfl rfl (fun _ => rfl), callable_conF rfl rfl (fun _ => rfl)⟩ ?_)
            (conv => arg 1; whnf)
            refine st1 ?_
            have hq : some _ = some _ := hF
            cases hq
            exact en1
        · refine st1 ?_
          obtain ⟨_, h, hF⟩ := e_bind hF
          (first | refine g_hcall h lv1 ⟨callable_conF rfl rfl (fun _ => rfl), callable_conF rfl rfl (fun _ => rfl)⟩ ?_ | refine g_hcallT h lv1 ⟨callable_conF rfl rfl (fun _ => rfl), callable_conF rfl rfl (fun _ => rfl)⟩ ?_)
          (conv => arg 1; whnf)
          refine st1 ?_
          rcases e_bif hF with ⟨hb6, hF⟩ | ⟨hb6, hF⟩ <;> rw [hb6]
          · refine st1 ?_
            have hq : some _ = some _ := hF
            cases hq
            exact en1
          · refine st1 ?_
            obtain ⟨_, h, hF⟩ := e_bind hF
            (first | refine g_hcall h lv1 ⟨callable_conF rfl rfl (fun _ => rfl), callable_conF rfl rfl (fun _ => rfl)⟩ ?_ | refine g_hcallT h lv1 ⟨callable_conF rfl rfl (fun _ => rfl), callable_conF rfl rfl (fun _ => rfl)⟩ ?_)
            (conv => arg 1; whnf)
            refine st1 ?_
            have hq : some _ = some _ := hF
            cases hq
            exact en1


@[reducible] noncomputable def c_thalwegref01_Closures : Con := conF F_thalwegref01_Closures (fun x => match x with | (a0, a1) => [(V.agg (eTRiver a0)), (V.sl (recs eTClosure (a1)) (a1).length)]) (fun r => (V.v (.int .i64 (r))))
theorem h_thalwegref01_Closures : Has Try.prog 48 c_thalwegref01_Closures := by
  refine hasF (ctx_cons h_thalwegref01_Places (ctx_cons h_thalwegref01_In (ctx_cons h_thalwegref01_Valid ctx_nil))) mix Try.func48 rfl (by kernel_rfl) ?_
  rintro ⟨a0, a1⟩ r hF
  refine ⟨of_decide_eq_true rfl, ?_⟩
  refine st1 ?_
  rcases e_bif hF with ⟨hb1, hF⟩ | ⟨hb1, hF⟩ <;> rw [hb1]
  · refine st1 ?_
    have hq : some _ = some _ := hF
    cases hq
    exact en1
  · refine st1 ?_
    refine st_loopF (e_assoc hF) () [(0, _)] ⟨sT, sS, by rfl, by rfl⟩ ?_
    · rintro n _ _ x hx1 hF
      (conv => arg 7; whnf); (conv => arg 8; whnf); (conv => arg 9; whnf)
      refine st1 ?_
      rcases e_bif hF with ⟨hb12, hF⟩ | ⟨hb12, hF⟩ <;> rw [hb12]
      · refine st1 ?_
        obtain ⟨_, h, hF⟩ := e_bind hF
        (first | refine o_ia (enc := eTClosure) (s := 6) h (fun _ => rfl) (by decide) ?_ | refine o_iaT (enc := eTClosure) (s := 6) h (fun _ => rfl) (by decide) ?_)
        intro _
        refine st1 ?_
        obtain ⟨_, h, hF⟩ := e_bind hF
        (first | refine g_call h lv1 ?_ | refine g_callT h lv1 ?_)
        (conv => arg 1; whnf)
        refine st1 ?_
        obtain ⟨_, h, hF⟩ := e_bind hF
        (first | refine g_call h lv1 ?_ | refine g_callT h lv1 ?_)
        (conv => arg 1; whnf)
        refine st1 ?_
        rcases e_bif hF with ⟨hb13, hF⟩ | ⟨hb13, hF⟩ <;> rw [hb13]
        · refine st1 ?_
          have hF := e_some hF
          have hq : some _ = some _ := hF
          cases hq
          exact en1
        · refine st1 ?_
          obtain ⟨_, h, hF⟩ := e_bind hF
          (first | refine g_call h lv1 ?_ | refine g_callT h lv1 ?_)
          (conv => arg 1; whnf)
          refine st1 ?_
          obtain ⟨_, h, hF⟩ := e_bind hF
          (first | refine g_call h lv1 ?_ | refine g_callT h lv1 ?_)
          (conv => arg 1; whnf)
          refine st1 ?_
          rcases e_bif hF with ⟨hb14, hF⟩ | ⟨hb14, hF⟩ <;> rw [hb14]
          · refine st1 ?_
            have hF := e_some hF
            have hq : some _ = some _ := hF
            cases hq
            exact en1
          · refine st1 ?_
            obtain ⟨_, h, hF⟩ := e_bind hF
            (first | refine g_call h lv1 ?_ | refine g_callT h lv1 ?_)
            (conv => arg 1; whnf)
            refine st1 ?_
            rcases e_bif hF with ⟨hb15, hF⟩ | ⟨hb15, hF⟩ <;> rw [hb15]
            · refine st1 ?_
              have hF := e_some hF
              have hq : some _ = some _ := hF
              cases hq
              exact en1
            · refine st1 ?_
              obtain ⟨_, h, hF⟩ := e_bind hF
              (first | refine g_call h lv1 ?_ | refine g_callT h lv1 ?_)
              (conv => arg 1; whnf)
              refine st1 ?_
              rcases e_bif hF with ⟨hb16, hF⟩ | ⟨hb16, hF⟩ <;> rw [hb16]
              · refine st1 ?_
                have hF := e_some hF
                have hq : some _ = some _ := hF
                cases hq
                exact en1
              · refine st1 ?_
                exact k_loopF (e_some hF) hx1 () [(0, _)] ⟨sT, sS, by rfl, by rfl⟩
      · refine st1 ?_
        have hF := e_some hF
        have hq : some _ = some _ := hF
        cases hq
        exact en1


@[reducible] noncomputable def c_thalwegref01_Floor : Con := conF F_thalwegref01_Floor (fun x => match x with | (a0, a1) => [(V.v (.int .i64 (a0))), (V.v (.int .i64 (a1)))]) (fun r => (V.v (.int .i64 (r))))
theorem h_thalwegref01_Floor : Has Try.prog 72 c_thalwegref01_Floor := by
  refine hasF ctx_nil mix Try.func72 rfl (by kernel_rfl) ?_
  rintro ⟨a0, a1⟩ r hF
  refine ⟨of_decide_eq_true rfl, ?_⟩
  refine st1 ?_
  obtain ⟨_, h, hF⟩ := e_bind hF
  (first | refine go_req (nz_ne h) ?_ | refine goT_req (nz_ne h) ?_)
  (conv => arg 1; whnf)
  refine st1 ?_
  rcases e_bif hF with ⟨hb1, hF⟩ | ⟨hb1, hF⟩ <;> rw [hb1]
  · refine st1 ?_
    have hq : some _ = some _ := hF
    cases hq
    exact en1
  · refine st1 ?_
    have hq : some _ = some _ := hF
    cases hq
    exact en1


@[reducible] noncomputable def c_thalwegref01_Ceil : Con := conF F_thalwegref01_Ceil (fun x => match x with | (a0, a1) => [(V.v (.int .i64 (a0))), (V.v (.int .i64 (a1)))]) (fun r => (V.v (.int .i64 (r))))
theorem h_thalwegref01_Ceil : Has Try.prog 73 c_thalwegref01_Ceil := by
  refine hasF ctx_nil mix Try.func73 rfl (by kernel_rfl) ?_
  rintro ⟨a0, a1⟩ r hF
  refine ⟨of_decide_eq_true rfl, ?_⟩
  refine st1 ?_
  obtain ⟨_, h, hF⟩ := e_bind hF
  (first | refine go_req (nz_ne h) ?_ | refine goT_req (nz_ne h) ?_)
  (conv => arg 1; whnf)
  refine st1 ?_
  rcases e_bif hF with ⟨hb1, hF⟩ | ⟨hb1, hF⟩ <;> rw [hb1]
  · refine st1 ?_
    have hq : some _ = some _ := hF
    cases hq
    exact en1
  · refine st1 ?_
    have hq : some _ = some _ := hF
    cases hq
    exact en1


@[reducible] noncomputable def c_thalwegref01_Curve : Con := conF F_thalwegref01_Curve (fun x => match x with | (a0, a1, a2) => [(V.agg (eTReach a0)), (V.v (.int .i64 (a1))), (V.v (.bool (a2)))]) (fun r => (V.v (.int .i64 (r))))
theorem h_thalwegref01_Curve : Has Try.prog 65 c_thalwegref01_Curve := by
  refine hasF (ctx_cons h_thalwegref01_Ceil (ctx_cons h_thalwegref01_Floor ctx_nil)) mix Try.func65 rfl (by kernel_rfl) ?_
  rintro ⟨a0, a1, a2⟩ r hF
  refine ⟨of_decide_eq_true rfl, ?_⟩
  refine st1 ?_
  obtain ⟨_, h, hF⟩ := e_bind hF
  (first | refine o_ia (enc := eTRateRow) (s := 2) h (fun _ => rfl) (by decide) ?_ | refine o_iaT (enc := eTRateRow) (s := 2) h (fun _ => rfl) (by decide) ?_)
  intro _
  refine st1 ?_
  obtain ⟨_, h, hF⟩ := e_bind hF
  (first | refine o_ia (enc := eTRateRow) (s := 2) h (fun _ => rfl) (by decide) ?_ | refine o_iaT (enc := eTRateRow) (s := 2) h (fun _ => rfl) (by decide) ?_)
  intro _
  refine st1 ?_
  rcases e_bif hF with ⟨hb1, hF⟩ | ⟨hb1, hF⟩ <;> rw [hb1]
  · refine st1 ?_
    obtain ⟨_, h, hF⟩ := e_bind hF
    (first | refine o_ia (enc := eTRateRow) (s := 2) h (fun _ => rfl) (by decide) ?_ | refine o_iaT (enc := eTRateRow) (s := 2) h (fun _ => rfl) (by decide) ?_)
    intro _
    refine st1 ?_
    have hq : some _ = some _ := hF
    cases hq
    exact en1
  · refine st1 ?_
    rcases e_bif hF with ⟨hb2, hF⟩ | ⟨hb2, hF⟩ <;> rw [hb2]
    · refine st1 ?_
      have hq : some _ = some _ := hF
      cases hq
      exact en1
    · refine st1 ?_
      refine st_loopF (e_assoc hF) () [(0, _)] ⟨sT, sS, by rfl, by rfl⟩ ?_
      · rintro n _ _ x hx1 hF
        (conv => arg 7; whnf); (conv => arg 8; whnf); (conv => arg 9; whnf)
        refine st1 ?_
        obtain ⟨_, h, hF⟩ := e_bind hF
        (first | refine o_ia (enc := eTRateRow) (s := 2) h (fun _ => rfl) (by decide) ?_ | refine o_iaT (enc := eTRateRow) (s := 2) h (fun _ => rfl) (by decide) ?_)
        intro _
        refine st1 ?_
        rcases e_bif hF with ⟨hb5, hF⟩ | ⟨hb5, hF⟩ <;> rw [hb5]
        · refine st1 ?_
          exact k_loopF (e_some hF) hx1 () [(0, _)] ⟨sT, sS, by rfl, by rfl⟩
        · refine st1 ?_
          have hF := e_some hF
          obtain ⟨_, h, hF⟩ := e_bind hF
          (first | refine o_ia (enc := eTRateRow) (s := 2) h (fun _ => rfl) (by decide) ?_ | refine o_iaT (enc := eTRateRow) (s := 2) h (fun _ => rfl) (by decide) ?_)
          intro _
          refine st1 ?_
          obtain ⟨_, h, hF⟩ := e_bind hF
          (first | refine o_ia (enc := eTRateRow) (s := 2) h (fun _ => rfl) (by decide) ?_ | refine o_iaT (enc := eTRateRow) (s := 2) h (fun _ => rfl) (by decide) ?_)
          intro _
          refine st1 ?_
          rcases e_bif hF with ⟨hb6, hF⟩ | ⟨hb6, hF⟩ <;> rw [hb6]
          · refine st1 ?_
            obtain ⟨_, h, hF⟩ := e_bind hF
            (first | refine g_call h lv1 ?_ | refine g_callT h lv1 ?_)
            (conv => arg 1; whnf)
            refine st1 ?_
            have hq : some _ = some _ := hF
            cases hq
            exact en1
          · refine st1 ?_
            obtain ⟨_, h, hF⟩ := e_bind hF
            (first | refine g_call h lv1 ?_ | refine g_callT h lv1 ?_)
            (conv => arg 1; whnf)
            refine st1 ?_
            have hq : some _ = some _ := hF
            cases hq
            exact en1


@[reducible] noncomputable def c_thalwegref01_Level : Con := conF F_thalwegref01_Level (fun x => match x with | (a0, a1) => [(V.agg (eTReach a0)), (V.agg (eTBounds a1))]) (fun r => (V.agg (eTBounds r)))
theorem h_thalwegref01_Level : Has Try.prog 25 c_thalwegref01_Level := by
  refine hasF (ctx_cons h_thalwegref01_Curve ctx_nil) mix Try.func25 rfl (by kernel_rfl) ?_
  rintro ⟨a0, a1⟩ r hF
  refine ⟨of_decide_eq_true rfl, ?_⟩
  refine st1 ?_
  obtain ⟨_, h, hF⟩ := e_bind hF
  (first | refine g_call h lv1 ?_ | refine g_callT h lv1 ?_)
  (conv => arg 1; whnf)
  refine st1 ?_
  obtain ⟨_, h, hF⟩ := e_bind hF
  (first | refine g_call h lv1 ?_ | refine g_callT h lv1 ?_)
  (conv => arg 1; whnf)
  refine st1 ?_
  have hq : some _ = some _ := hF
  cases hq
  exact en1


@[reducible] noncomputable def c_thalwegref01_Of : Con := conF F_thalwegref01_Of (fun x => match x with | (a0, a1) => [(V.agg (eTRiver a0)), (V.v (.int .i64 (a1)))]) (fun r => (V.v (.int .i64 (r))))
theorem h_thalwegref01_Of : Has Try.prog 81 c_thalwegref01_Of := by
  refine hasF ctx_nil mix Try.func81 rfl (by kernel_rfl) ?_
  rintro ⟨a0, a1⟩ r hF
  refine ⟨of_decide_eq_true rfl, ?_⟩
  refine st1 ?_
  refine st_loopF (e_assoc hF) () [(0, _)] ⟨sT, sS, by rfl, by rfl⟩ ?_
  · rintro n ⟨_, _⟩ _ x hx1 hF
    (conv => arg 7; whnf); (conv => arg 8; whnf); (conv => arg 9; whnf)
    refine st1 ?_
    obtain ⟨_, h, hF⟩ := e_bind hF
    (first | refine o_ia (enc := eTReach) (s := 9) h (fun _ => rfl) (by decide) ?_ | refine o_iaT (enc := eTReach) (s := 9) h (fun _ => rfl) (by decide) ?_)
    intro _
    refine st1 ?_
    rcases e_bif hF with ⟨hb3, hF⟩ | ⟨hb3, hF⟩ <;> rw [hb3]
    · refine st1 ?_
      obtain ⟨_, h, hF⟩ := e_bind hF
      (first | refine o_ia (enc := eTReach) (s := 9) h (fun _ => rfl) (by decide) ?_ | refine o_iaT (enc := eTReach) (s := 9) h (fun _ => rfl) (by decide) ?_)
      intro _
      refine st1 ?_
      exact k_loopF (e_some hF) hx1 () [(0, _)] ⟨sT, sS, by rfl, by rfl⟩
    · refine st1 ?_
      have hF := e_some hF
      have hq : some _ = some _ := hF
      cases hq
      exact en1


@[reducible] noncomputable def c_thalwegref01_Closed : Con := conF F_thalwegref01_Closed (fun x => match x with | (a0, a1, a2, a3, a4) => [(V.agg (eTRiver a0)), (V.sl (recs (eS eTBounds) (a1)) (a1).length), (V.sl (recs eTClosure (a2)) (a2).length), (V.v (.int .i64 (a3))), (V.v (.int .i64 (a4)))]) (fun r => V.tup [(V.v (.bool (r.1))), (V.v (.bool (r.2)))])
theorem h_thalwegref01_Closed : Has Try.prog 49 c_thalwegref01_Closed := by
  refine hasF (ctx_cons h_thalwegref01_Of (ctx_cons h_thalwegref01_Flow (ctx_cons h_thalwegref01_In (ctx_cons h_thalwegref01_Level ctx_nil)))) mix Try.func49 rfl (by kernel_rfl) ?_
  rintro ⟨a0, a1, a2, a3, a4⟩ r hF
  refine ⟨of_decide_eq_true rfl, ?_⟩
  refine st1 ?_
  obtain ⟨_, h, hF⟩ := e_bind hF
  (first | refine g_call h lv1 ?_ | refine g_callT h lv1 ?_)
  (conv => arg 1; whnf)
  refine st1 ?_
  obtain ⟨_, h, hF⟩ := e_bind hF
  (first | refine o_ia (enc := eTReach) (s := 9) h (fun _ => rfl) (by decide) ?_ | refine o_iaT (enc := eTReach) (s := 9) h (fun _ => rfl) (by decide) ?_)
  intro _
  refine st1 ?_
  obtain ⟨_, h, hF⟩ := e_bind hF
  (first | refine g_call h lv1 ?_ | refine g_callT h lv1 ?_)
  (conv => arg 1; whnf)
  refine st1 ?_
  obtain ⟨_, h, hF⟩ := e_bind hF
  (first | refine g_call h lv1 ?_ | refine g_callT h lv1 ?_)
  (conv => arg 1; whnf)
  refine st1 ?_
  obtain ⟨_, h, hF⟩ := e_bind hF
  (first | refine o_ia (enc := eTReach) (s := 9) h (fun _ => rfl) (by decide) ?_ | refine o_iaT (enc := eTReach) (s := 9) h (fun _ => rfl) (by decide) ?_)
  intro _
  refine st1 ?_
  obtain ⟨_, h, hF⟩ := e_bind hF
  (first | refine o_ia (enc := eTReach) (s := 9) h (fun _ => rfl) (by decide) ?_ | refine o_iaT (enc := eTReach) (s := 9) h (fun _ => rfl) (by decide) ?_)
  intro _
  refine st1 ?_
  refine st_loopF (e_assoc hF) () [] ⟨sT, sS, by rfl, by rfl⟩ ?_
  · rintro n ⟨_, _, _⟩ _ x hx1 hF
    (conv => arg 7; whnf); (conv => arg 8; whnf); (conv => arg 9; whnf)
    refine st1 ?_
    rcases e_bif hF with ⟨hb21, hF⟩ | ⟨hb21, hF⟩ <;> rw [hb21]
    · refine st1 ?_
      obtain ⟨_, h, hF⟩ := e_bind hF
      (first | refine o_ia (enc := eTClosure) (s := 6) h (fun _ => rfl) (by decide) ?_ | refine o_iaT (enc := eTClosure) (s := 6) h (fun _ => rfl) (by decide) ?_)
      intro _
      refine st1 ?_
      obtain ⟨_, h, hF⟩ := e_bind hF
      (first | refine g_call h lv1 ?_ | refine g_callT h lv1 ?_)
      (conv => arg 1; whnf)
      refine st1 ?_
      rcases e_bif hF with ⟨hb22, hF⟩ | ⟨hb22, hF⟩ <;> rw [hb22]
      · refine st1 ?_
        exact k_loopF (e_some hF) hx1 () [] ⟨sT, sS, by rfl, by rfl⟩
      · refine st1 ?_
        rcases e_bif hF with ⟨hb23, hF⟩ | ⟨hb23, hF⟩ <;> rw [hb23]
        · refine st1 ?_
          rcases e_bif hF with ⟨hb24, hF⟩ | ⟨hb24, hF⟩ <;> rw [hb24]
          · refine st1 ?_
            exact k_loopF (e_some hF) hx1 () [] ⟨sT, sS, by rfl, by rfl⟩
          · refine st1 ?_
            rcases e_bif hF with ⟨hb25, hF⟩ | ⟨hb25, hF⟩ <;> rw [hb25]
            · refine st1 ?_
              exact k_loopF (e_some hF) hx1 () [] ⟨sT, sS, by rfl, by rfl⟩
            · refine st1 ?_
              exact k_loopF (e_some hF) hx1 () [] ⟨sT, sS, by rfl, by rfl⟩
        · refine st1 ?_
          rcases e_bif hF with ⟨hb26, hF⟩ | ⟨hb26, hF⟩ <;> rw [hb26]
          · refine st1 ?_
            rcases e_bif hF with ⟨hb27, hF⟩ | ⟨hb27, hF⟩ <;> rw [hb27]
            · refine st1 ?_
              exact k_loopF (e_some hF) hx1 () [] ⟨sT, sS, by rfl, by rfl⟩
            · refine st1 ?_
              rcases e_bif hF with ⟨hb28, hF⟩ | ⟨hb28, hF⟩ <;> rw [hb28]
              · refine st1 ?_
                exact k_loopF (e_some hF) hx1 () [] ⟨sT, sS, by rfl, by rfl⟩
              · refine st1 ?_
                exact k_loopF (e_some hF) hx1 () [] ⟨sT, sS, by rfl, by rfl⟩
          · refine st1 ?_
            rcases e_bif hF with ⟨hb29, hF⟩ | ⟨hb29, hF⟩ <;> rw [hb29]
            · refine st1 ?_
              exact k_loopF (e_some hF) hx1 () [] ⟨sT, sS, by rfl, by rfl⟩
            · refine st1 ?_
              rcases e_bif hF with ⟨hb30, hF⟩ | ⟨hb30, hF⟩ <;> rw [hb30]
              · refine st1 ?_
                exact k_loopF (e_some hF) hx1 () [] ⟨sT, sS, by rfl, by rfl⟩
              · refine st1 ?_
                exact k_loopF (e_some hF) hx1 () [] ⟨sT, sS, by rfl, by rfl⟩
    · refine st1 ?_
      have hF := e_some hF
      have hq : some _ = some _ := hF
      cases hq
      exact en1


@[reducible] noncomputable def c_thalweglaw01_RiverCloses : Con := conF F_thalweglaw01_RiverCloses (fun x => match x with | (a0, a1, a2) => [(V.agg (eTthalweglaw01_Forecast a0)), (V.sl (recs eTClosure (a1)) (a1).length), (V.agg (eTanon85 a2))]) (fun r => (V.v (.bool (r))))
theorem fl_thalweglaw01_RiverCloses_89 : flatOf Try.prog 9 89 = some [true, true, true, true, true, true] := by kernel_rfl
theorem eg_thalweglaw01_RiverCloses_89 : Try.prog.eqGuardType Try.prog.depth 89 = false := by kernel_rfl
theorem ag_thalweglaw01_RiverCloses_89 : aggOf Try.prog 89 = some true := by kernel_rfl
theorem h_thalweglaw01_RiverCloses : Has Try.prog 9 c_thalweglaw01_RiverCloses := by
  refine hasF (ctx_cons h_thalwegref01_Closed (ctx_cons h_thalwegref01_Closures (ctx_cons h_river_Closed (ctx_cons h_thalwegref01_Places (ctx_cons h_thalwegref01_In (ctx_cons h_thalwegref01_Start (ctx_cons h_thalweglaw01_forecast (ctx_cons h_thalweglaw01_copied (ctx_cons h_thalweglaw01_known (ctx_cons h_thalweglaw01_large ctx_nil)))))))))) mix Try.func9 rfl (by kernel_rfl) ?_
  rintro ⟨a0, a1, a2⟩ r hF
  refine ⟨of_decide_eq_true rfl, ?_⟩
  refine st1 ?_
  obtain ⟨_, h, hF⟩ := e_bind hF
  (first | refine g_call h lv1 ?_ | refine g_callT h lv1 ?_)
  (conv => arg 1; whnf)
  refine st1 ?_
  rcases e_bif hF with ⟨hb1, hF⟩ | ⟨hb1, hF⟩ <;> rw [hb1]
  · refine st1 ?_
    obtain ⟨_, h, hF⟩ := e_bind hF
    (first | refine g_call h lv1 ?_ | refine g_callT h lv1 ?_)
    (conv => arg 1; whnf)
    refine st1 ?_
    have hq : some _ = some _ := hF
    cases hq
    exact en1
  · refine st1 ?_
    rcases e_bif hF with ⟨hb2, hF⟩ | ⟨hb2, hF⟩ <;> rw [hb2]
    · refine st1 ?_
      obtain ⟨_, h, hF⟩ := e_bind hF
      (first | refine g_call h lv1 ?_ | refine g_callT h lv1 ?_)
      (conv => arg 1; whnf)
      refine st1 ?_
      have hq : some _ = some _ := hF
      cases hq
      exact en1
    · refine st1 ?_
      obtain ⟨_, h, hF⟩ := e_bind hF
      (first | refine o_app (enc := eTClosure) (s := 6) h (fun _ => rfl) ?_ | refine o_appT (enc := eTClosure) (s := 6) h (fun _ => rfl) ?_)
      refine st1 ?_
      obtain ⟨_, h, hF⟩ := e_bind hF
      (first | refine g_call h lv1 ?_ | refine g_callT h lv1 ?_)
      (conv => arg 1; whnf)
      refine st1 ?_
      obtain ⟨_, h, hF⟩ := e_bind hF
      (first | refine g_call h lv1 ?_ | refine g_callT h lv1 ?_)
      (conv => arg 1; whnf)
      refine st1 ?_
      obtain ⟨_, h, hF⟩ := e_bind hF
      (first | refine g_call h lv1 ?_ | refine g_callT h lv1 ?_)
      (conv => arg 1; whnf)
      refine st1 ?_
      refine st_loopF (e_assoc hF) _ [(0, _), (1, _), (12, _)] ⟨sT, sS, by rfl, by rfl⟩ ?_
      · rintro n _ _ x hx1 hF
        (conv => arg 7; whnf); (conv => arg 8; whnf); (conv => arg 9; whnf)
        refine st1 ?_
        rcases e_bif hF with ⟨hb7, hF⟩ | ⟨hb7, hF⟩ <;> rw [hb7]
        · refine st1 ?_
          obtain ⟨_, hi13, hF⟩ := e_bind hF
          (first | refine go_req (oidx_ok hi13 (by decide)) ?_ | refine goT_req (oidx_ok hi13 (by decide)) ?_)
          (conv => arg 1; whnf)
          refine st1 ?_
          (first | refine o_ldA (enc := eTClosure) (s := 6) hi13 (fun _ => rfl) (by decide) ?_ | refine o_ldB (enc := eTClosure) (s := 6) hi13 (fun _ => rfl) (by decide) ?_ | refine o_ldC (enc := eTClosure) (s := 6) hi13 (fun _ => rfl) (by decide) ?_ | refine o_ldD (enc := eTClosure) (s := 6) hi13 (fun _ => rfl) (by decide) ?_ | refine o_ldAT (enc := eTClosure) (s := 6) hi13 (fun _ => rfl) (by decide) ?_ | refine o_ldBT (enc := eTClosure) (s := 6) hi13 (fun _ => rfl) (by decide) ?_ | refine o_ldCT (enc := eTClosure) (s := 6) hi13 (fun _ => rfl) (by decide) ?_ | refine o_ldDT (enc := eTClosure) (s := 6) hi13 (fun _ => rfl) (by decide) ?_)
          (conv => arg 1; whnf)
          refine st1 ?_
          obtain ⟨_, h, hF⟩ := e_bind hF
          (first | refine o_ia (enc := eTClosure) (s := 6) h (fun _ => rfl) (by decide) ?_ | refine o_iaT (enc := eTClosure) (s := 6) h (fun _ => rfl) (by decide) ?_)
          intro _
          refine st1 ?_
          rw [fl_thalweglaw01_RiverCloses_89, eg_thalweglaw01_RiverCloses_89, ag_thalweglaw01_RiverCloses_89]
          (conv => arg 1; whnf)
          refine st1 ?_
          rcases e_bif hF with ⟨hb8, hF⟩ | ⟨hb8, hF⟩ <;> rw [hb8]
          · refine st1 ?_
            have hF := e_some hF
            have hq : some _ = some _ := hF
            cases hq
            exact en1
          · refine st1 ?_
            exact k_loopF (e_some hF) hx1 _ [(0, _), (1, _), (12, _)] ⟨sT, sS, by rfl, by rfl⟩
        · refine st1 ?_
          have hF := e_some hF
          obtain ⟨_, h, hF⟩ := e_bind hF
          (first | refine g_call h lv1 ?_ | refine g_callT h lv1 ?_)
          (conv => arg 1; whnf)
          refine st1 ?_
          rcases e_bif hF with ⟨hb9, hF⟩ | ⟨hb9, hF⟩ <;> rw [hb9]
          · refine st1 ?_
            obtain ⟨_, h, hF⟩ := e_bind hF
            (first | refine g_call h lv1 ?_ | refine g_callT h lv1 ?_)
            (conv => arg 1; whnf)
            refine st1 ?_
            rcases e_bif hF with ⟨hb10, hF⟩ | ⟨hb10, hF⟩ <;> rw [hb10]
            · refine st1 ?_
              obtain ⟨_, h, hF⟩ := e_bind hF
              (first | refine g_call h lv1 ?_ | refine g_callT h lv1 ?_)
              (conv => arg 1; whnf)
              refine st1 ?_
              obtain ⟨_, h, hF⟩ := e_bind hF
              (first | refine g_call h lv1 ?_ | refine g_callT h lv1 ?_)
              (conv => arg 1; whnf)
              refine st1 ?_
              rcases e_bif hF with ⟨hb11, hF⟩ | ⟨hb11, hF⟩ <;> rw [hb11]
              · refine st1 ?_
                rcases e_bif hF with ⟨hb12, hF⟩ | ⟨hb12, hF⟩ <;> rw [hb12]
                · refine st1 ?_
                  rcases e_bif hF with ⟨hb13, hF⟩ | ⟨hb13, hF⟩ <;> rw [hb13]
                  · refine st1 ?_
                    rcases e_bif hF with ⟨hb14, hF⟩ | ⟨hb14, hF⟩ <;> rw [hb14]
                    · refine st1 ?_
                      obtain ⟨_, h, hF⟩ := e_bind hF
                      (first | refine g_call h lv1 ?_ | refine g_callT h lv1 ?_)
                      (conv => arg 1; whnf)
                      refine st1 ?_
                      have hq : some _ = some _ := hF
                      cases hq
                      exact en1
                    · refine st1 ?_
                      have hq : some _ = some _ := hF
                      cases hq
                      exact en1
                  · refine st1 ?_
                    have hq : some _ = some _ := hF
                    cases hq
                    exact en1
                · refine st1 ?_
                  have hq : some _ = some _ := hF
                  cases hq
                  exact en1
              · refine st1 ?_
                rw [hb10]
                refine st1 ?_
                obtain ⟨_, h, hF⟩ := e_bind hF
                (first | refine o_ia (enc := (eS eTBounds)) (s := 1) h (fun _ => rfl) (by decide) ?_ | refine o_iaT (enc := (eS eTBounds)) (s := 1) h (fun _ => rfl) (by decide) ?_)
                intro _
                refine st1 ?_
                obtain ⟨_, h, hF⟩ := e_bind hF
                (first | refine g_call h lv1 ?_ | refine g_callT h lv1 ?_)
                (conv => arg 1; whnf)
                refine st1 ?_
                rcases e_bif hF with ⟨hb15, hF⟩ | ⟨hb15, hF⟩ <;> rw [hb15]
                · refine st1 ?_
                  rcases e_bif hF with ⟨hb16, hF⟩ | ⟨hb16, hF⟩ <;> rw [hb16]
                  · refine st1 ?_
                    rcases e_bif hF with ⟨hb17, hF⟩ | ⟨hb17, hF⟩ <;> rw [hb17]
                    · refine st1 ?_
                      rcases e_bif hF with ⟨hb18, hF⟩ | ⟨hb18, hF⟩ <;> rw [hb18]
                      · refine st1 ?_
                        obtain ⟨_, h, hF⟩ := e_bind hF
                        (first | refine g_call h lv1 ?_ | refine g_callT h lv1 ?_)
                        (conv => arg 1; whnf)
                        refine st1 ?_
                        have hq : some _ = some _ := hF
                        cases hq
                        exact en1
                      · refine st1 ?_
                        have hq : some _ = some _ := hF
                        cases hq
                        exact en1
                    · refine st1 ?_
                      have hq : some _ = some _ := hF
                      cases hq
                      exact en1
                  · refine st1 ?_
                    have hq : some _ = some _ := hF
                    cases hq
                    exact en1
                · refine st1 ?_
                  rw [(eqT_ne hb10)]
                  refine st1 ?_
                  obtain ⟨_, h, hF⟩ := e_bind hF
                  (first | refine g_call h lv1 ?_ | refine g_callT h lv1 ?_)
                  (conv => arg 1; whnf)
                  refine st1 ?_
                  rcases e_bif hF with ⟨hb19, hF⟩ | ⟨hb19, hF⟩ <;> rw [hb19]
                  · refine st1 ?_
                    rcases e_bif hF with ⟨hb20, hF⟩ | ⟨hb20, hF⟩ <;> rw [hb20]
                    · refine st1 ?_
                      rcases e_bif hF with ⟨hb21, hF⟩ | ⟨hb21, hF⟩ <;> rw [hb21]
                      · refine st1 ?_
                        obtain ⟨_, h, hF⟩ := e_bind hF
                        (first | refine g_call h lv1 ?_ | refine g_callT h lv1 ?_)
                        (conv => arg 1; whnf)
                        refine st1 ?_
                        have hq : some _ = some _ := hF
                        cases hq
                        exact en1
                      · refine st1 ?_
                        have hq : some _ = some _ := hF
                        cases hq
                        exact en1
                    · refine st1 ?_
                      have hq : some _ = some _ := hF
                      cases hq
                      exact en1
                  · refine st1 ?_
                    have hq : some _ = some _ := hF
                    cases hq
                    exact en1
            · refine st1 ?_
              rw [hb10]
              refine st1 ?_
              rw [(eqF_ne hb10)]
              refine st1 ?_
              rcases e_bif hF with ⟨hb22, hF⟩ | ⟨hb22, hF⟩ <;> rw [hb22]
              · refine st1 ?_
                rcases e_bif hF with ⟨hb23, hF⟩ | ⟨hb23, hF⟩ <;> rw [hb23]
                · refine st1 ?_
                  rcases e_bif hF with ⟨hb24, hF⟩ | ⟨hb24, hF⟩ <;> rw [hb24]
                  · refine st1 ?_
                    obtain ⟨_, h, hF⟩ := e_bind hF
                    (first | refine g_call h lv1 ?_ | refine g_callT h lv1 ?_)
                    (conv => arg 1; whnf)
                    refine st1 ?_
                    have hq : some _ = some _ := hF
                    cases hq
                    exact en1
                  · refine st1 ?_
                    have hq : some _ = some _ := hF
                    cases hq
                    exact en1
                · refine st1 ?_
                  have hq : some _ = some _ := hF
                  cases hq
                  exact en1
              · refine st1 ?_
                have hq : some _ = some _ := hF
                cases hq
                exact en1
          · refine st1 ?_
            rw [hb9]
            refine st1 ?_
            rw [hb9]
            refine st1 ?_
            rw [(eqF_ne hb9)]
            refine st1 ?_
            rcases e_bif hF with ⟨hb25, hF⟩ | ⟨hb25, hF⟩ <;> rw [hb25]
            · refine st1 ?_
              rcases e_bif hF with ⟨hb26, hF⟩ | ⟨hb26, hF⟩ <;> rw [hb26]
              · refine st1 ?_
                rcases e_bif hF with ⟨hb27, hF⟩ | ⟨hb27, hF⟩ <;> rw [hb27]
                · refine st1 ?_
                  obtain ⟨_, h, hF⟩ := e_bind hF
                  (first | refine g_call h lv1 ?_ | refine g_callT h lv1 ?_)
                  (conv => arg 1; whnf)
                  refine st1 ?_
                  have hq : some _ = some _ := hF
                  cases hq
                  exact en1
                · refine st1 ?_
                  have hq : some _ = some _ := hF
                  cases hq
                  exact en1
              · refine st1 ?_
                have hq : some _ = some _ := hF
                cases hq
                exact en1
            · refine st1 ?_
              have hq : some _ = some _ := hF
              cases hq
              exact en1


@[reducible] noncomputable def c_thalweglaw01_valid : Con := conF F_thalweglaw01_valid (fun x => match x with | (a0) => [(V.agg (eTthalweglaw01_Forecast a0))]) (fun r => (V.v (.bool (r))))
theorem h_thalweglaw01_valid : Has Try.prog 50 c_thalweglaw01_valid := by
  refine hasF (ctx_cons h_river_Check (ctx_cons h_thalweglaw01_copied (ctx_cons h_thalweglaw01_large ctx_nil))) mix Try.func50 rfl (by kernel_rfl) ?_
  rintro a0 r hF
  refine ⟨of_decide_eq_true rfl, ?_⟩
  refine st1 ?_
  obtain ⟨_, h, hF⟩ := e_bind hF
  (first | refine g_call h lv1 ?_ | refine g_callT h lv1 ?_)
  (conv => arg 1; whnf)
  refine st1 ?_
  rcases e_bif hF with ⟨hb1, hF⟩ | ⟨hb1, hF⟩ <;> rw [hb1]
  · refine st1 ?_
    have hq : some _ = some _ := hF
    cases hq
    exact en1
  · refine st1 ?_
    rcases e_bif hF with ⟨hb2, hF⟩ | ⟨hb2, hF⟩ <;> rw [hb2]
    · refine st1 ?_
      have hq : some _ = some _ := hF
      cases hq
      exact en1
    · refine st1 ?_
      rcases e_bif hF with ⟨hb3, hF⟩ | ⟨hb3, hF⟩ <;> rw [hb3]
      · refine st1 ?_
        have hq : some _ = some _ := hF
        cases hq
        exact en1
      · refine st1 ?_
        obtain ⟨_, h, hF⟩ := e_bind hF
        (first | refine o_ia (enc := (eS eTBounds)) (s := 1) h (fun _ => rfl) (by decide) ?_ | refine o_iaT (enc := (eS eTBounds)) (s := 1) h (fun _ => rfl) (by decide) ?_)
        intro _
        refine st1 ?_
        rcases e_bif hF with ⟨hb4, hF⟩ | ⟨hb4, hF⟩ <;> rw [hb4]
        · refine st1 ?_
          have hq : some _ = some _ := hF
          cases hq
          exact en1
        · refine st1 ?_
          obtain ⟨_, h, hF⟩ := e_bind hF
          (first | refine g_call h lv1 ?_ | refine g_callT h lv1 ?_)
          (conv => arg 1; whnf)
          refine st1 ?_
          obtain ⟨_, h, hF⟩ := e_bind hF
          (first | refine g_call h lv1 ?_ | refine g_callT h lv1 ?_)
          (conv => arg 1; whnf)
          refine st1 ?_
          rcases e_bif hF with ⟨hb5, hF⟩ | ⟨hb5, hF⟩ <;> rw [hb5]
          · refine st1 ?_
            have hq : some _ = some _ := hF
            cases hq
            exact en1
          · refine st1 ?_
            refine st_loopF (e_assoc hF) () [(0, _)] ⟨sT, sS, by rfl, by rfl⟩ ?_
            · rintro n _ _ x hx1 hF
              (conv => arg 7; whnf); (conv => arg 8; whnf); (conv => arg 9; whnf)
              refine st1 ?_
              rcases e_bif hF with ⟨hb34, hF⟩ | ⟨hb34, hF⟩ <;> rw [hb34]
              · refine st1 ?_
                obtain ⟨_, h, hF⟩ := e_bind hF
                (first | refine o_ia (enc := (eS eTBounds)) (s := 1) h (fun _ => rfl) (by decide) ?_ | refine o_iaT (enc := (eS eTBounds)) (s := 1) h (fun _ => rfl) (by decide) ?_)
                intro _
                refine st1 ?_
                obtain ⟨_, h, hF⟩ := e_bind hF
                (first | refine o_ia (enc := (eS eTBounds)) (s := 1) h (fun _ => rfl) (by decide) ?_ | refine o_iaT (enc := (eS eTBounds)) (s := 1) h (fun _ => rfl) (by decide) ?_)
                intro _
                refine st1 ?_
                rcases e_bif hF with ⟨hb35, hF⟩ | ⟨hb35, hF⟩ <;> rw [hb35]
                · refine st1 ?_
                  have hF := e_some hF
                  have hq : some _ = some _ := hF
                  cases hq
                  exact en1
                · refine st1 ?_
                  refine st_loopF (e_assoc hF) () [(0, _)] ⟨sT, sS, by rfl, by rfl⟩ ?_
                  · rintro n _ _ x hx2 hF
                    (conv => arg 7; whnf); (conv => arg 8; whnf); (conv => arg 9; whnf)
                    refine st1 ?_
                    obtain ⟨_, h, hF⟩ := e_bind hF
                    (first | refine o_ia (enc := (eS eTBounds)) (s := 1) h (fun _ => rfl) (by decide) ?_ | refine o_iaT (enc := (eS eTBounds)) (s := 1) h (fun _ => rfl) (by decide) ?_)
                    intro _
                    refine st1 ?_
                    rcases e_bif hF with ⟨hb44, hF⟩ | ⟨hb44, hF⟩ <;> rw [hb44]
                    · refine st1 ?_
                      obtain ⟨_, h, hF⟩ := e_bind hF
                      (first | refine o_ia (enc := (eS eTBounds)) (s := 1) h (fun _ => rfl) (by decide) ?_ | refine o_iaT (enc := (eS eTBounds)) (s := 1) h (fun _ => rfl) (by decide) ?_)
                      intro _
                      refine st1 ?_
                      obtain ⟨_, h, hF⟩ := e_bind hF
                      (first | refine o_ia (enc := eTBounds) (s := 2) h (fun _ => rfl) (by decide) ?_ | refine o_iaT (enc := eTBounds) (s := 2) h (fun _ => rfl) (by decide) ?_)
                      intro _
                      refine st1 ?_
                      rcases e_bif hF with ⟨hb45, hF⟩ | ⟨hb45, hF⟩ <;> rw [hb45]
                      · refine st1 ?_
                        have hF := e_some hF
                        have hF := e_some hF
                        have hq : some _ = some _ := hF
                        cases hq
                        exact en1
                      · refine st1 ?_
                        rcases e_bif hF with ⟨hb46, hF⟩ | ⟨hb46, hF⟩ <;> rw [hb46]
                        · refine st1 ?_
                          have hF := e_some hF
                          have hF := e_some hF
                          have hq : some _ = some _ := hF
                          cases hq
                          exact en1
                        · refine st1 ?_
                          rcases e_bif hF with ⟨hb47, hF⟩ | ⟨hb47, hF⟩ <;> rw [hb47]
                          · refine st1 ?_
                            have hF := e_some hF
                            have hF := e_some hF
                            have hq : some _ = some _ := hF
                            cases hq
                            exact en1
                          · refine st1 ?_
                            exact k_loopF (e_some hF) hx2 () [(0, _)] ⟨sT, sS, by rfl, by rfl⟩
                    · refine st1 ?_
                      have hF := e_some hF
                      exact k_loopF (e_some hF) hx1 () [(0, _)] ⟨sT, sS, by rfl, by rfl⟩
              · refine st1 ?_
                have hF := e_some hF
                obtain ⟨_, h, hF⟩ := e_bind hF
                (first | refine o_ia (enc := (eS eTBounds)) (s := 1) h (fun _ => rfl) (by decide) ?_ | refine o_iaT (enc := (eS eTBounds)) (s := 1) h (fun _ => rfl) (by decide) ?_)
                intro _
                refine st1 ?_
                have hq : some _ = some _ := hF
                cases hq
                exact en1


@[reducible] noncomputable def c_thalweglaw01_RiverKeeps : Con := conF F_thalweglaw01_RiverKeeps (fun x => match x with | (a0, a1) => [(V.agg (eTthalweglaw01_Forecast a0)), (V.agg (eTanon106 a1))]) (fun r => (V.v (.bool (r))))
theorem fl_thalweglaw01_RiverKeeps_27 : flatOf Try.prog 9 27 = some [true, true] := by kernel_rfl
theorem eg_thalweglaw01_RiverKeeps_27 : Try.prog.eqGuardType Try.prog.depth 27 = false := by kernel_rfl
theorem ag_thalweglaw01_RiverKeeps_27 : aggOf Try.prog 27 = some true := by kernel_rfl
theorem h_thalweglaw01_RiverKeeps : Has Try.prog 13 c_thalweglaw01_RiverKeeps := by
  refine hasF (ctx_cons h_thalweglaw01_valid (ctx_cons h_river_Volume (ctx_cons h_thalweglaw01_forecast (ctx_cons h_thalweglaw01_copied (ctx_cons h_thalweglaw01_known ctx_nil))))) mix Try.func13 rfl (by kernel_rfl) ?_
  rintro ⟨a0, a1⟩ r hF
  refine ⟨of_decide_eq_true rfl, ?_⟩
  refine st1 ?_
  obtain ⟨_, h, hF⟩ := e_bind hF
  (first | refine g_call h lv1 ?_ | refine g_callT h lv1 ?_)
  (conv => arg 1; whnf)
  refine st1 ?_
  rcases e_bif hF with ⟨hb1, hF⟩ | ⟨hb1, hF⟩ <;> rw [hb1]
  · refine st1 ?_
    obtain ⟨_, h, hF⟩ := e_bind hF
    (first | refine g_call h lv1 ?_ | refine g_callT h lv1 ?_)
    (conv => arg 1; whnf)
    refine st1 ?_
    have hq : some _ = some _ := hF
    cases hq
    exact en1
  · refine st1 ?_
    obtain ⟨_, h, hF⟩ := e_bind hF
    (first | refine o_ia (enc := (eS eTBounds)) (s := 1) h (fun _ => rfl) (by decide) ?_ | refine o_iaT (enc := (eS eTBounds)) (s := 1) h (fun _ => rfl) (by decide) ?_)
    intro _
    refine st1 ?_
    obtain ⟨_, h, hF⟩ := e_bind hF
    (first | refine go_req (nz_ne h) ?_ | refine goT_req (nz_ne h) ?_)
    (conv => arg 1; whnf)
    refine st1 ?_
    obtain ⟨_, h, hF⟩ := e_bind hF
    (first | refine go_req (nz_ne h) ?_ | refine goT_req (nz_ne h) ?_)
    (conv => arg 1; whnf)
    refine st1 ?_
    obtain ⟨_, h, hF⟩ := e_bind hF
    (first | refine go_req (nz_ne h) ?_ | refine goT_req (nz_ne h) ?_)
    (conv => arg 1; whnf)
    refine st1 ?_
    obtain ⟨_, h, hF⟩ := e_bind hF
    (first | refine g_call h lv1 ?_ | refine g_callT h lv1 ?_)
    (conv => arg 1; whnf)
    refine st1 ?_
    obtain ⟨_, h, hF⟩ := e_bind hF
    (first | refine g_call h lv1 ?_ | refine g_callT h lv1 ?_)
    (conv => arg 1; whnf)
    refine st1 ?_
    obtain ⟨_, h, hF⟩ := e_bind hF
    (first | refine g_call h lv1 ?_ | refine g_callT h lv1 ?_)
    (conv => arg 1; whnf)
    refine st1 ?_
    obtain ⟨_, h, hF⟩ := e_bind hF
    (first | refine g_call h lv1 ?_ | refine g_callT h lv1 ?_)
    (conv => arg 1; whnf)
    refine st1 ?_
    obtain ⟨_, h, hF⟩ := e_bind hF
    (first | refine g_call h lv1 ?_ | refine g_callT h lv1 ?_)
    (conv => arg 1; whnf)
    refine st1 ?_
    obtain ⟨_, h, hF⟩ := e_bind hF
    (first | refine g_call h lv1 ?_ | refine g_callT h lv1 ?_)
    (conv => arg 1; whnf)
    refine st1 ?_
    obtain ⟨_, h, hF⟩ := e_bind hF
    (first | refine g_call h lv1 ?_ | refine g_callT h lv1 ?_)
    (conv => arg 1; whnf)
    refine st1 ?_
    obtain ⟨_, h, hF⟩ := e_bind hF
    (first | refine g_call h lv1 ?_ | refine g_callT h lv1 ?_)
    (conv => arg 1; whnf)
    refine st1 ?_
    obtain ⟨_, h, hF⟩ := e_bind hF
    (first | refine g_call h lv1 ?_ | refine g_callT h lv1 ?_)
    (conv => arg 1; whnf)
    refine st1 ?_
    rcases e_bif hF with ⟨hb2, hF⟩ | ⟨hb2, hF⟩ <;> rw [hb2]
    · refine st1 ?_
      have hq : some _ = some _ := hF
      cases hq
      exact en1
    · refine st1 ?_
      rcases e_bif hF with ⟨hb3, hF⟩ | ⟨hb3, hF⟩ <;> rw [hb3]
      · refine st1 ?_
        have hq : some _ = some _ := hF
        cases hq
        exact en1
      · refine st1 ?_
        rcases e_bif hF with ⟨hb4, hF⟩ | ⟨hb4, hF⟩ <;> rw [hb4]
        · refine st1 ?_
          have hq : some _ = some _ := hF
          cases hq
          exact en1
        · refine st1 ?_
          rcases e_bif hF with ⟨hb5, hF⟩ | ⟨hb5, hF⟩ <;> rw [hb5]
          · refine st1 ?_
            have hq : some _ = some _ := hF
            cases hq
            exact en1
          · refine st1 ?_
            rcases e_bif hF with ⟨hb6, hF⟩ | ⟨hb6, hF⟩ <;> rw [hb6]
            · refine st1 ?_
              have hq : some _ = some _ := hF
              cases hq
              exact en1
            · refine st1 ?_
              rcases e_bif hF with ⟨hb7, hF⟩ | ⟨hb7, hF⟩ <;> rw [hb7]
              · refine st1 ?_
                have hq : some _ = some _ := hF
                cases hq
                exact en1
              · refine st1 ?_
                rcases e_bif hF with ⟨hb8, hF⟩ | ⟨hb8, hF⟩ <;> rw [hb8]
                · refine st1 ?_
                  have hq : some _ = some _ := hF
                  cases hq
                  exact en1
                · refine st1 ?_
                  refine st_loopF (e_assoc hF) () [(0, _), (66, _), (127, _)] ⟨sT, sS, by rfl, by rfl⟩ ?_
                  · rintro n ⟨_, _, _⟩ _ x hx1 hF
                    (conv => arg 7; whnf); (conv => arg 8; whnf); (conv => arg 9; whnf)
                    refine st1 ?_
                    rcases e_bif hF with ⟨hb11, hF⟩ | ⟨hb11, hF⟩ <;> rw [hb11]
                    · refine st1 ?_
                      obtain ⟨_, h, hF⟩ := e_bind hF
                      (first | refine o_ia (enc := (eS eTBounds)) (s := 1) h (fun _ => rfl) (by decide) ?_ | refine o_iaT (enc := (eS eTBounds)) (s := 1) h (fun _ => rfl) (by decide) ?_)
                      intro _
                      refine st1 ?_
                      obtain ⟨_, h, hF⟩ := e_bind hF
                      (first | refine o_ia (enc := eTBounds) (s := 2) h (fun _ => rfl) (by decide) ?_ | refine o_iaT (enc := eTBounds) (s := 2) h (fun _ => rfl) (by decide) ?_)
                      intro _
                      refine st1 ?_
                      obtain ⟨_, h, hF⟩ := e_bind hF
                      (first | refine o_ia (enc := (eS eTBounds)) (s := 1) h (fun _ => rfl) (by decide) ?_ | refine o_iaT (enc := (eS eTBounds)) (s := 1) h (fun _ => rfl) (by decide) ?_)
                      intro _
                      refine st1 ?_
                      obtain ⟨_, h, hF⟩ := e_bind hF
                      (first | refine o_ia (enc := eTBounds) (s := 2) h (fun _ => rfl) (by decide) ?_ | refine o_iaT (enc := eTBounds) (s := 2) h (fun _ => rfl) (by decide) ?_)
                      intro _
                      refine st1 ?_
                      exact k_loopF (e_some hF) hx1 () [(0, _), (66, _), (127, _)] ⟨sT, sS, by rfl, by rfl⟩
                    · refine st1 ?_
                      have hF := e_some hF
                      rcases e_bif hF with ⟨hb12, hF⟩ | ⟨hb12, hF⟩ <;> rw [hb12]
                      · refine st1 ?_
                        rw [fl_thalweglaw01_RiverKeeps_27, eg_thalweglaw01_RiverKeeps_27, ag_thalweglaw01_RiverKeeps_27]
                        (conv => arg 1; whnf)
                        refine st1 ?_
                        rcases e_bif hF with ⟨hb13, hF⟩ | ⟨hb13, hF⟩ <;> rw [hb13]
                        · refine st1 ?_
                          obtain ⟨_, h, hF⟩ := e_bind hF
                          (first | refine g_call h lv1 ?_ | refine g_callT h lv1 ?_)
                          (conv => arg 1; whnf)
                          refine st1 ?_
                          have hq : some _ = some _ := hF
                          cases hq
                          exact en1
                        · refine st1 ?_
                          have hq : some _ = some _ := hF
                          cases hq
                          exact en1
                      · refine st1 ?_
                        obtain ⟨_, h, hF⟩ := e_bind hF
                        (first | refine o_ia (enc := eTReach) (s := 9) h (fun _ => rfl) (by decide) ?_ | refine o_iaT (enc := eTReach) (s := 9) h (fun _ => rfl) (by decide) ?_)
                        intro _
                        refine st1 ?_
                        rcases e_bif hF with ⟨hb14, hF⟩ | ⟨hb14, hF⟩ <;> rw [hb14]
                        · refine st1 ?_
                          rcases e_bif hF with ⟨hb15, hF⟩ | ⟨hb15, hF⟩ <;> rw [hb15]
                          · refine st1 ?_
                            rcases e_bif hF with ⟨hb16, hF⟩ | ⟨hb16, hF⟩ <;> rw [hb16]
                            · refine st1 ?_
                              obtain ⟨_, h, hF⟩ := e_bind hF
                              (first | refine g_call h lv1 ?_ | refine g_callT h lv1 ?_)
                              (conv => arg 1; whnf)
                              refine st1 ?_
                              have hq : some _ = some _ := hF
                              cases hq
                              exact en1
                            · refine st1 ?_
                              have hq : some _ = some _ := hF
                              cases hq
                              exact en1
                          · refine st1 ?_
                            have hq : some _ = some _ := hF
                            cases hq
                            exact en1
                        · refine st1 ?_
                          obtain ⟨_, h, hF⟩ := e_bind hF
                          (first | refine g_call h lv1 ?_ | refine g_callT h lv1 ?_)
                          (conv => arg 1; whnf)
                          refine st1 ?_
                          obtain ⟨_, h, hF⟩ := e_bind hF
                          (first | refine g_call h lv1 ?_ | refine g_callT h lv1 ?_)
                          (conv => arg 1; whnf)
                          refine st1 ?_
                          obtain ⟨_, h, hF⟩ := e_bind hF
                          (first | refine g_call h lv1 ?_ | refine g_callT h lv1 ?_)
                          (conv => arg 1; whnf)
                          refine st1 ?_
                          rcases e_bif hF with ⟨hb17, hF⟩ | ⟨hb17, hF⟩ <;> rw [hb17]
                          · refine st1 ?_
                            rw [fl_thalweglaw01_RiverKeeps_27, eg_thalweglaw01_RiverKeeps_27, ag_thalweglaw01_RiverKeeps_27]
                            (conv => arg 1; whnf)
                            refine st1 ?_
                            rcases e_bif hF with ⟨hb18, hF⟩ | ⟨hb18, hF⟩ <;> rw [hb18]
                            · refine st1 ?_
                              obtain ⟨_, h, hF⟩ := e_bind hF
                              (first | refine g_call h lv1 ?_ | refine g_callT h lv1 ?_)
                              (conv => arg 1; whnf)
                              refine st1 ?_
                              have hq : some _ = some _ := hF
                              cases hq
                              exact en1
                            · refine st1 ?_
                              have hq : some _ = some _ := hF
                              cases hq
                              exact en1
                          · refine st1 ?_
                            have hq : some _ = some _ := hF
                            cases hq
                            exact en1
end Go.Ev
/- Chapter 1: what the checks say. -/
set_option linter.unusedVariables false
set_option linter.unusedSimpArgs false
namespace Go.Ev
set_option maxHeartbeats 1000000

theorem every_int {l : List Int} {p : Int → Option Bool} {q : Int → Bool} {g : FuncId} {caps : List V} (hp : ∀ x ∈ l, p x = some (q x)) (hl : l.length ≤ 4611686018427387904) : F_numbers_Every_int (l, p, g, caps) = some (l.all q) := by
  unfold F_numbers_Every_int
  simp only
  rw [show (0 : Int) = ((0 : Nat) : Int) from rfl, loop_list l (fun k => (k : Int)) q (e := .inl ()) (f := .inr false)]
  · cases l.all q <;> rfl
  · intro k hk
    simp only [L_numbers_Every_int_1, Int.ofNat_lt, hk, decide_true, cond_true, idx?_nat hk, Option.bind_some, hp _ (List.getElem_mem hk), wr_nat (show k < 9223372036854775807 by omega)]
    cases q l[k] <;> rfl
  · simp [L_numbers_Every_int_1]
theorem every_Reach {l : List TReach} {p : TReach → Option Bool} {q : TReach → Bool} {g : FuncId} {caps : List V} (hp : ∀ x ∈ l, p x = some (q x)) (hl : l.length ≤ 4611686018427387904) : F_numbers_Every_Reach (l, p, g, caps) = some (l.all q) := by
  unfold F_numbers_Every_Reach
  simp only
  rw [show (0 : Int) = ((0 : Nat) : Int) from rfl, loop_list l (fun k => (k : Int)) q (e := .inl ()) (f := .inr false)]
  · cases l.all q <;> rfl
  · intro k hk
    simp only [L_numbers_Every_Reach_1, Int.ofNat_lt, hk, decide_true, cond_true, idx?_nat hk, Option.bind_some, hp _ (List.getElem_mem hk), wr_nat (show k < 9223372036854775807 by omega)]
    cases q l[k] <;> rfl
  · simp [L_numbers_Every_Reach_1]
theorem every_RateRow {l : List TRateRow} {p : TRateRow → Option Bool} {q : TRateRow → Bool} {g : FuncId} {caps : List V} (hp : ∀ x ∈ l, p x = some (q x)) (hl : l.length ≤ 4611686018427387904) : F_numbers_Every_RateRow (l, p, g, caps) = some (l.all q) := by
  unfold F_numbers_Every_RateRow
  simp only
  rw [show (0 : Int) = ((0 : Nat) : Int) from rfl, loop_list l (fun k => (k : Int)) q (e := .inl ()) (f := .inr false)]
  · cases l.all q <;> rfl
  · intro k hk
    simp only [L_numbers_Every_RateRow_1, Int.ofNat_lt, hk, decide_true, cond_true, idx?_nat hk, Option.bind_some, hp _ (List.getElem_mem hk), wr_nat (show k < 9223372036854775807 by omega)]
    cases q l[k] <;> rfl
  · simp [L_numbers_Every_RateRow_1]
theorem every_Shoal {l : List TShoal} {p : TShoal → Option Bool} {q : TShoal → Bool} {g : FuncId} {caps : List V} (hp : ∀ x ∈ l, p x = some (q x)) (hl : l.length ≤ 4611686018427387904) : F_numbers_Every_Shoal (l, p, g, caps) = some (l.all q) := by
  unfold F_numbers_Every_Shoal
  simp only
  rw [show (0 : Int) = ((0 : Nat) : Int) from rfl, loop_list l (fun k => (k : Int)) q (e := .inl ()) (f := .inr false)]
  · cases l.all q <;> rfl
  · intro k hk
    simp only [L_numbers_Every_Shoal_1, Int.ofNat_lt, hk, decide_true, cond_true, idx?_nat hk, Option.bind_some, hp _ (List.getElem_mem hk), wr_nat (show k < 9223372036854775807 by omega)]
    cases q l[k] <;> rfl
  · simp [L_numbers_Every_Shoal_1]

theorem bif_and (a b : Bool) : (bif a then some b else some false) = some (a && b) := by cases a <;> rfl
theorem bif_not (a b : Bool) : (bif (!a) then some false else some b) = some (a && b) := by cases a <;> rfl

theorem within1_eq (n a b : Int) : F_numbers_Within_1 (n, a, b) = some (inB n a b) := by
  simp only [F_numbers_Within_1, bif_and, inB]
theorem within_eq (a b : Int) (l : List Int) (hl : l.length ≤ 4611686018427387904) : F_numbers_Within (a, b, l) = some (l.all fun n => inB n a b) := by
  simp only [F_numbers_Within]
  rw [every_int (q := fun n => inB n a b) (fun x _ => within1_eq x a b) hl]
  rfl
theorem within1 (a b n : Int) : F_numbers_Within (a, b, [n]) = some (inB n a b) := by rw [within_eq _ _ _ (by simp)]; simp
theorem within2 (a b n m : Int) : F_numbers_Within (a, b, [n, m]) = some (inB n a b && inB m a b) := by rw [within_eq _ _ _ (by simp)]; simp
def vB (b : TBounds) (x y : Int) : Bool := decide (b.Low ≤ b.High) && (inB b.Low x y && inB b.High x y)
theorem valid_eq (b : TBounds) (x y : Int) : F_numbers_Valid (b, x, y) = some (vB b x y) := by
  simp only [F_numbers_Valid, within2, Option.bind_some, bif_and, vB]
theorem In_eq (n a b : Int) : F_thalwegref01_In (n, a, b) = some (inB n a b) := by
  simp only [F_thalwegref01_In, ge_iff_le, bif_and, inB]
theorem rvalid_eq (b : TBounds) (x y : Int) : F_thalwegref01_Valid (b, x, y) = some (vB b x y) := by
  simp only [F_thalwegref01_Valid, In_eq, Option.bind_some, bif_and]
  congr 1
  rw [Bool.eq_iff_iff]
  simp only [vB, inB, Bool.and_eq_true, decide_eq_true_eq]
  omega

def rowOk (x : TRateRow) : Bool := inB x.Flow 0 10000000000 && inB x.Level 0 10000
def pairOk (p : TRateRow × TRateRow) : Bool := decide (p.1.Flow < p.2.Flow) && decide (p.1.Level ≤ p.2.Level)
def curveOk (l : List TRateRow) : Bool := inB l.length 2 30 && ((pairs l).all pairOk && l.all rowOk)
theorem vc2_eq (x : TRateRow) : F_river_validCurve_2 x = some (rowOk x) := by
  simp only [F_river_validCurve_2, within1, Option.bind_some, bif_and, rowOk]
theorem vc1_eq (a b : TRateRow) : F_river_validCurve_1 (a, b) = some (pairOk (a, b)) := by
  simp only [F_river_validCurve_1, bif_and, pairOk]
theorem validCurve_eq (l : List TRateRow) : F_river_validCurve l = some (curveOk l) := by
  unfold F_river_validCurve
  simp only [within1, Option.bind_some]
  cases hl : inB l.length 2 30 with
  | false => simp [curveOk, hl]
  | true =>
    rw [inB_iff] at hl
    simp only [Bool.not_true, cond_false]
    rw [show (1 : Int) = (((0 : Nat) + 1 : Nat) : Int) from rfl, loop_list (pairs l) (fun k => ((k + 1 : Nat) : Int)) pairOk (e := .inl ()) (f := .inr false)]
    · cases hp : (pairs l).all pairOk with
      | false => simp [curveOk, hp]
      | true =>
        simp only [if_true, Option.bind_some]
        rw [every_RateRow (q := rowOk) (fun x _ => vc2_eq x) (by omega)]
        simp [curveOk, hp, inB, hl]
    · intro k hk
      have hk' := hk
      rw [pairs_length] at hk'
      rw [pairs_get]
      simp only [L_river_validCurve_1, show decide (((k + 1 : Nat) : Int) < (l.length : Int)) = true by simp; omega, cond_true]
      rw [show wr (((k + 1 : Nat) : Int) - 1) = (k : Int) by rw [wr_in] <;> omega, idx?_nat (show k < l.length by omega), idx?_nat (show k + 1 < l.length by omega)]
      simp only [Option.bind_some, vc1_eq]
      rw [wr_nat (by omega)]
      cases pairOk (l[k], l[k + 1]) <;> rfl
    · simp only [L_river_validCurve_1, pairs_length]
      rw [show l.length - 1 + 1 = l.length by omega]
      simp
def reachOk (x : TReach) : Bool := inB x.Length 1 5000 && (inB x.Delay 0 200 && ((inB x.Weir 0 10000 && inB x.Flood 0 10000) && (vB x.Base 0 10000000000 && (vB x.Bottom 0 10000 && curveOk x.Curve))))
theorem validReach_eq (x : TReach) : F_river_validReach x = some (reachOk x) := by
  simp only [F_river_validReach, within1, within2, valid_eq, validCurve_eq, Option.bind_some, bif_and, reachOk]
end Go.Ev
/- Chapter 1: rivers that are valid. -/
set_option linter.unusedVariables false
set_option linter.unusedSimpArgs false
namespace Go.Ev
set_option maxHeartbeats 1000000

theorem bif_not' (a : Bool) (x : Option Bool) : (bif (!a) then some false else x) = bif a then x else some false := by cases a <;> rfl
/-- What a reference asks of the rows of a curve, row by row. -/
def rowAt (l : List TRateRow) (k : Nat) : Bool := match l[k]? with
  | none => true
  | some x => rowOk x && (decide (k = 0) || match l[k - 1]? with
    | none => true
    | some y => pairOk (y, x))
theorem all_rows (l : List TRateRow) : (List.range l.length).all (rowAt l) = ((pairs l).all pairOk && l.all rowOk) := by
  rw [Bool.eq_iff_iff]
  simp only [List.all_eq_true, Bool.and_eq_true, List.mem_range]
  constructor
  · intro h
    refine ⟨fun p hp => ?_, fun x hx => ?_⟩
    · obtain ⟨k, hk, rfl⟩ := List.getElem_of_mem hp
      rw [pairs_get]
      have hk' := hk
      rw [pairs_length] at hk'
      have := h (k + 1) (by omega)
      unfold rowAt at this
      rw [List.getElem?_eq_getElem (show k + 1 < l.length by omega)] at this
      simp only [Nat.add_sub_cancel, List.getElem?_eq_getElem (show k < l.length by omega), Bool.and_eq_true, Bool.or_eq_true] at this
      rcases this.2 with h1 | h1
      · simp at h1
      · exact h1
    · obtain ⟨k, hk, rfl⟩ := List.getElem_of_mem hx
      have := h k hk
      unfold rowAt at this
      rw [List.getElem?_eq_getElem hk] at this
      simp only [Bool.and_eq_true] at this
      exact this.1
  · rintro ⟨h1, h2⟩ k hk
    unfold rowAt
    rw [List.getElem?_eq_getElem hk]
    simp only [Bool.and_eq_true, Bool.or_eq_true]
    refine ⟨h2 _ (List.getElem_mem hk), ?_⟩
    cases k with
    | zero => left; rfl
    | succ k =>
      right
      rw [Nat.add_sub_cancel, List.getElem?_eq_getElem (show k < l.length by omega)]
      have hp : k < (pairs l).length := by rw [pairs_length]; omega
      have := h1 _ (List.getElem_mem hp)
      rwa [pairs_get] at this

theorem loop_range {S E : Type} {step : S → Option (S ⊕ E)} (n : Nat) (st : Nat → S) (q : Nat → Bool) {e f : E} (h : ∀ k, k < n → step (st k) = some (if q k then .inl (st (k + 1)) else .inr f)) (he : step (st n) = some (.inr e)) :
    loopC step (st 0) = some (if (List.range n).all q then e else f) := by
  have := loop_list (List.range n) st q (e := e) (f := f) (step := step) (by intro k hk; simpa using h k (by simpa using hk)) (by simpa using he)
  exact this

theorem refReach_eq (x : TReach) : F_thalwegref01_Reach x = some (reachOk x) := by
  unfold F_thalwegref01_Reach
  simp only [In_eq, rvalid_eq, Option.bind_some, bif_not']
  cases hl : inB x.Curve.length 2 30 with
  | false =>
    have : reachOk x = false := by simp [reachOk, curveOk, hl]
    rw [this]
    simp only [cond_false]
    cases inB x.Length 1 5000 <;> cases inB x.Delay 0 200 <;> cases vB x.Base 0 10000000000 <;> rfl
  | true =>
    have hl2 := inB_iff.1 hl
    rw [show (0 : Int) = ((0 : Nat) : Int) from rfl, loop_range x.Curve.length (fun k => (k : Int)) (rowAt x.Curve) (e := .inl ()) (f := .inr false)]
    · rw [all_rows]
      simp only [reachOk, curveOk, hl]
      cases inB x.Length 1 5000 <;> cases inB x.Delay 0 200 <;> cases vB x.Base 0 10000000000 <;> cases inB x.Weir 0 10000 <;> cases vB x.Bottom 0 10000 <;> cases inB x.Flood 0 10000 <;> cases (pairs x.Curve).all pairOk <;> cases x.Curve.all rowOk <;> rfl
    · intro k hk
      simp only [L_thalwegref01_Reach_1, Int.ofNat_lt, hk, decide_true, cond_true, idx?_nat hk, Option.bind_some, In_eq]
      rw [wr_nat (by omega)]
      simp only [rowAt, List.getElem?_eq_getElem hk, rowOk]
      cases inB x.Curve[k].Flow 0 10000000000 with
      | false => rfl
      | true =>
        cases inB x.Curve[k].Level 0 10000 with
        | false => rfl
        | true =>
          simp only [Bool.not_true, cond_false, Bool.and_self, Bool.true_and]
          cases k with
          | zero => rfl
          | succ k =>
            simp only [show decide (((k + 1 : Nat) : Int) > 0) = true by simp, cond_true]
            rw [show wr (((k + 1 : Nat) : Int) - 1) = (k : Int) by rw [wr_in] <;> omega, idx?_nat (show k < x.Curve.length by omega)]
            simp only [Option.bind_some, Nat.add_sub_cancel, List.getElem?_eq_getElem (show k < x.Curve.length by omega), pairOk, show decide (k + 1 = 0) = false by simp, Bool.false_or]
            by_cases h1 : x.Curve[k + 1].Flow ≤ x.Curve[k].Flow
            · simp [h1, show ¬ x.Curve[k].Flow < x.Curve[k + 1].Flow by omega]
            · by_cases h2 : x.Curve[k + 1].Level < x.Curve[k].Level
              · simp [h1, h2, show x.Curve[k].Flow < x.Curve[k + 1].Flow by omega, show ¬ x.Curve[k].Level ≤ x.Curve[k + 1].Level by omega]
              · simp [h1, h2, show x.Curve[k].Flow < x.Curve[k + 1].Flow by omega, show x.Curve[k].Level ≤ x.Curve[k + 1].Level by omega]
    · simp [L_thalwegref01_Reach_1]
end Go.Ev
