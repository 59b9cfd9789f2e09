/- A part of the proof of TowConflicts. -/
import Derived.Lib.AppendZeros
import Derived.RangeFuncLeaves
import Derived.RangeFuncNested
import Derived.Test.YtignohgoodffbacProg
import Derived.Test.YtignohgoodffbacW2
/- What the functions do over typed data. -/
set_option linter.unusedVariables false
set_option linter.unusedSimpArgs false
namespace Go.Ev
set_option maxHeartbeats 8000000
set_option maxRecDepth 100000
structure TBounds where
  Low : Int
  High : Int
  deriving DecidableEq
def eTBounds (x : TBounds) : List V := [(V.v (.int .i64 (x.Low))), (V.v (.int .i64 (x.High)))]
structure TRun where
  From : Int
  To : Int
  Speed : TBounds
  Wait : TBounds
  deriving DecidableEq
def eTRun (x : TRun) : List V := [(V.v (.int .i64 (x.From))), (V.v (.int .i64 (x.To))), (V.v (.int .i64 (x.Speed.Low))), (V.v (.int .i64 (x.Speed.High))), (V.v (.int .i64 (x.Wait.Low))), (V.v (.int .i64 (x.Wait.High)))]
structure TVoyage where
  Start : TBounds
  Runs : List TRun
  Length : Int
  Width : Int
  deriving DecidableEq
def eTVoyage (x : TVoyage) : List V := [(V.v (.int .i64 (x.Start.Low))), (V.v (.int .i64 (x.Start.High))), (V.sl (recs eTRun (x.Runs)) (x.Runs).length), (V.v (.int .i64 (x.Length))), (V.v (.int .i64 (x.Width)))]
structure TNarrow where
  From : Int
  To : Int
  Width : Int
  Single : Bool
  deriving DecidableEq
def eTNarrow (x : TNarrow) : List V := [(V.v (.int .i64 (x.From))), (V.v (.int .i64 (x.To))), (V.v (.int .i64 (x.Width))), (V.v (.bool (x.Single)))]
structure Tthalweglaw03_Traffic where
  Voyages : List TVoyage
  Narrows : List TNarrow
  deriving DecidableEq
def eTthalweglaw03_Traffic (x : Tthalweglaw03_Traffic) : List V := [(V.sl (recs eTVoyage (x.Voyages)) (x.Voyages).length), (V.sl (recs eTNarrow (x.Narrows)) (x.Narrows).length)]
structure Ttow_stay where
  in_ : TBounds
  out_ : TBounds
  passes_ : Bool
  deriving DecidableEq
def eTtow_stay (x : Ttow_stay) : List V := [(V.v (.int .i64 (x.in_.Low))), (V.v (.int .i64 (x.in_.High))), (V.v (.int .i64 (x.out_.Low))), (V.v (.int .i64 (x.out_.High))), (V.v (.bool (x.passes_)))]
structure Ttow_fleet where
  voyages_ : List TVoyage
  narrows_ : List TNarrow
  stays_ : List (List Ttow_stay)
  deriving DecidableEq
def eTtow_fleet (x : Ttow_fleet) : List V := [(V.sl (recs eTVoyage (x.voyages_)) (x.voyages_).length), (V.sl (recs eTNarrow (x.narrows_)) (x.narrows_).length), (V.sl (recs (eS eTtow_stay) (x.stays_)) (x.stays_).length)]
structure TMeeting where
  First : Int
  Second : Int
  Narrow : Int
  deriving DecidableEq
def eTMeeting (x : TMeeting) : List V := [(V.v (.int .i64 (x.First))), (V.v (.int .i64 (x.Second))), (V.v (.int .i64 (x.Narrow)))]

noncomputable def L_thalweglaw03_large_1 (a0 : Tthalweglaw03_Traffic) : LoopD (Int) (Unit ⊕ Bool) (Unit) where
  step := fun s => match s with
    | s1 =>
      bif (decide (s1 < ((a0.Voyages).length : Int))) then
        (idx? (a0.Voyages) (s1)).bind fun x3 =>
        bif (decide (((x3.Runs).length : Int) > 25)) then
          some (.inr (.inr true))
        else
          some (.inl (wr (s1 + 1)))
      else
        some (.inr (.inl ()))
  at_ := fun s gh => match s, gh with
    | s1, () => ⟨[(1, (V.box 0 0)), (2, (V.v (.bool (false)))), (3, (V.v (.int .i64 (s1))))], [(0, Bx.var [(V.sl (recs eTVoyage (a0.Voyages)) (a0.Voyages).length), (V.sl (recs eTNarrow (a0.Narrows)) (a0.Narrows).length)] false)], 1⟩
noncomputable def F_thalweglaw03_large : (Tthalweglaw03_Traffic) → Option (Bool) := fun x => match x with
  | (a0) =>
    (loopC (L_thalweglaw03_large_1 a0).step 0).bind fun e => match e with
    | (.inl ()) =>
      bif (decide (((a0.Voyages).length : Int) > 14)) then
        some true
      else
        some (decide (((a0.Narrows).length : Int) > 25))
    | (.inr r4) =>
      some r4

noncomputable def F_thalweglaw03_copied : (TVoyage) → Option (TVoyage) := fun x => match x with
  | (a0) =>
    (app? (([] : List TRun)) (a0.Runs) 48).bind fun l1 =>
    some (⟨a0.Start, l1, a0.Length, a0.Width⟩ : TVoyage)

noncomputable def L_thalweglaw03_all_1 (a0 : List TVoyage) : LoopD (Int × (List TVoyage)) (((List TVoyage))) (Unit) where
  step := fun s => match s with
    | (s1, s2) =>
      bif (decide (s1 < ((a0).length : Int))) then
        (idx? (a0) (s1)).bind fun x6 =>
        (F_thalweglaw03_copied (x6)).bind fun y7 =>
        (app? (s2) (([y7] : List TVoyage)) 56).bind fun l8 =>
        some (.inl ((wr (s1 + 1)), l8))
      else
        some (.inr s2)
  at_ := fun s gh => match s, gh with
    | (s1, s2), () => ⟨[(0, (V.sl (recs eTVoyage (a0)) (a0).length)), (2, (V.v (.slice none 0 0))), (3, (V.osl 1 (s2).length)), (4, (V.v (.int .i64 (s1))))], [(1, Bx.row 45 5 (recs eTVoyage (s2)) 0)], 2⟩
noncomputable def F_thalweglaw03_all : ((List TVoyage)) → Option (List TVoyage) := fun x => match x with
  | (a0) =>
    (loopC (L_thalweglaw03_all_1 a0).step (0, ([] : List TVoyage))).bind fun e => match e with
    | s9 =>
      some s9

noncomputable def F_thalweglaw03_narrows : ((List TNarrow)) → Option (List TNarrow) := fun x => match x with
  | (a0) =>
    (app? (([] : List TNarrow)) (a0) 32).bind fun l1 =>
    some l1

noncomputable def L_numbers_Every_int_1 (a1 : (Int → Option Bool)) (a0 : List Int) (g : FuncId) (caps : List V) : LoopD (Int) (Unit ⊕ Bool) (Unit) where
  step := fun s => match s with
    | s1 =>
      bif (decide (s1 < ((a0).length : Int))) then
        (idx? (a0) (s1)).bind fun x4 =>
        (a1 (x4)).bind fun y5 =>
        bif (!y5) then
          some (.inr (.inr false))
        else
          some (.inl (wr (s1 + 1)))
      else
        some (.inr (.inl ()))
  at_ := fun s gh => match s, gh with
    | s1, () => ⟨[(1, (V.fn g caps)), (4, (V.v (.bool (false)))), (7, (V.sl (recs (eI .i64) (a0)) (a0).length)), (8, (V.v (.int .i64 (((a0).length : Int))))), (9, (V.v (.int .i64 (s1))))], [], 0⟩
noncomputable def F_numbers_Every_int : ((List Int) × ((Int → Option Bool)) × FuncId × (List V)) → Option (Bool) := fun x => match x with
  | (a0, a1, g, caps) =>
    (loopC (L_numbers_Every_int_1 a1 a0 g caps).step 0).bind fun e => match e with
    | (.inl ()) =>
      some true
    | (.inr r6) =>
      some r6

noncomputable def F_numbers_Within_1 : (Int × Int × Int) → Option (Bool) := fun x => match x with
  | (a0, c0, c1) =>
    bif (decide (c0 ≤ a0)) then
      some (decide (a0 ≤ c1))
    else
      some false

noncomputable def F_numbers_Within : (Int × Int × (List Int)) → Option (Bool) := fun x => match x with
  | (a0, a1, a2) =>
    (F_numbers_Every_int (a2, (fun q => F_numbers_Within_1 (q, a0, a1)), 52, [(V.fptr [(V.v (.int .i64 (a0)))]), (V.fptr [(V.v (.int .i64 (a1)))])])).bind fun y1 =>
    some y1

noncomputable def F_numbers_Valid : (TBounds × Int × Int) → Option (Bool) := fun x => match x with
  | (a0, a1, a2) =>
    bif (decide (a0.Low ≤ a0.High)) then
      (F_numbers_Within (a1, a2, ([a0.Low, a0.High] : List Int))).bind fun y1 =>
      some y1
    else
      some false

noncomputable def L_numbers_Every_Run_1 (a1 : (TRun → Option Bool)) (a0 : List TRun) (g : FuncId) (caps : List V) : LoopD (Int) (Unit ⊕ Bool) (Unit) where
  step := fun s => match s with
    | s1 =>
      bif (decide (s1 < ((a0).length : Int))) then
        (idx? (a0) (s1)).bind fun x4 =>
        (a1 (x4)).bind fun y5 =>
        bif (!y5) then
          some (.inr (.inr false))
        else
          some (.inl (wr (s1 + 1)))
      else
        some (.inr (.inl ()))
  at_ := fun s gh => match s, gh with
    | s1, () => ⟨[(1, (V.fn g caps)), (4, (V.v (.bool (false)))), (7, (V.sl (recs eTRun (a0)) (a0).length)), (8, (V.v (.int .i64 (((a0).length : Int))))), (9, (V.v (.int .i64 (s1))))], [], 0⟩
noncomputable def F_numbers_Every_Run : ((List TRun) × ((TRun → Option Bool)) × FuncId × (List V)) → Option (Bool) := fun x => match x with
  | (a0, a1, g, caps) =>
    (loopC (L_numbers_Every_Run_1 a1 a0 g caps).step 0).bind fun e => match e with
    | (.inl ()) =>
      some true
    | (.inr r6) =>
      some r6

noncomputable def F_tow_validRun : (TRun) → Option (Bool) := fun x => match x with
  | (a0) =>
    (F_numbers_Within (0, 100000, ([a0.From, a0.To] : List Int))).bind fun y1 =>
    bif y1 then
      bif (a0.From != a0.To) then
        (F_numbers_Valid (a0.Speed, 1, 400)).bind fun y2 =>
        bif y2 then
          (F_numbers_Valid (a0.Wait, 0, 5000)).bind fun y3 =>
          some y3
        else
          some false
      else
        some false
    else
      some false

noncomputable def F_tow_down : (TRun) → Option (Bool) := fun x => match x with
  | (a0) =>
    some (decide (a0.From < a0.To))

noncomputable def L_tow_joined_1 (a0 : List TRun) : LoopD (Int) (Unit ⊕ Bool) (Unit) where
  step := fun s => match s with
    | s1 =>
      bif (decide (s1 < ((a0).length : Int))) then
        (idx? (a0) (s1)).bind fun x8 =>
        (idx? (a0) ((wr (s1 - 1)))).bind fun x9 =>
        bif (x8.From != x9.To) then
          some (.inr (.inr false))
        else
          (idx? (a0) (s1)).bind fun x10 =>
          (F_tow_down (x10)).bind fun y11 =>
          (idx? (a0) ((wr (s1 - 1)))).bind fun x12 =>
          (F_tow_down (x12)).bind fun y13 =>
          bif (!(y11 == y13)) then
            some (.inr (.inr false))
          else
            some (.inl (wr (s1 + 1)))
      else
        some (.inr (.inl ()))
  at_ := fun s gh => match s, gh with
    | s1, () => ⟨[(0, (V.sl (recs eTRun (a0)) (a0).length)), (2, (V.v (.bool (false)))), (3, (V.v (.int .i64 (s1))))], [], 0⟩
noncomputable def F_tow_joined : ((List TRun)) → Option (Bool) := fun x => match x with
  | (a0) =>
    (loopC (L_tow_joined_1 a0).step 1).bind fun e => match e with
    | (.inl ()) =>
      some true
    | (.inr r14) =>
      some r14

noncomputable def F_tow_Check : (TVoyage) → Option (Int) := fun x => match x with
  | (a0) =>
    (F_numbers_Valid (a0.Start, 0, 1000000)).bind fun y1 =>
    bif (!y1) then
      some 2
    else
      (F_numbers_Within (1, 20, ([((a0.Runs).length : Int)] : List Int))).bind fun y2 =>
      bif (!y2) then
        some 2
      else
        (F_numbers_Within (1, 3000, ([a0.Length] : List Int))).bind fun y3 =>
        bif (!y3) then
          some 2
        else
          (F_numbers_Within (1, 200, ([a0.Width] : List Int))).bind fun y4 =>
          bif (!y4) then
            some 2
          else
            (F_numbers_Every_Run (a0.Runs, (fun q => F_tow_validRun (q)), 60, [])).bind fun y5 =>
            bif (!y5) then
              some 2
            else
              (F_tow_joined (a0.Runs)).bind fun y6 =>
              bif (!y6) then
                some 2
              else
                some 0

noncomputable def F_tow_validNarrow : (TNarrow) → Option (Bool) := fun x => match x with
  | (a0) =>
    (F_numbers_Within (0, 100000, ([a0.From, a0.To] : List Int))).bind fun y1 =>
    bif y1 then
      bif (decide (a0.From < a0.To)) then
        (F_numbers_Within (1, 200, ([a0.Width] : List Int))).bind fun y2 =>
        some y2
      else
        some false
    else
      some false

noncomputable def F_numbers_Down : (Int × Int) → Option (Int) := fun x => match x with
  | (a0, a1) =>
    (nz? (a1)).bind fun _ =>
    bif (decide ((Int.tmod a0 a1) < 0)) then
      (nz? (a1)).bind fun _ =>
      some (wr ((wr (Int.tdiv a0 a1)) - 1))
    else
      (nz? (a1)).bind fun _ =>
      some (wr (Int.tdiv a0 a1))

noncomputable def F_numbers_Up : (Int × Int) → Option (Int) := fun x => match x with
  | (a0, a1) =>
    (F_numbers_Down ((wr (0 - a0)), a1)).bind fun y1 =>
    some (wr (0 - y1))

noncomputable def F_tow_gates : (TVoyage × TNarrow) → Option (Int × Int) := fun x => match x with
  | (a0, a1) =>
    (F_numbers_Up (a0.Length, 100)).bind fun y1 =>
    (idx? (a0.Runs) (0)).bind fun x2 =>
    (F_tow_down (x2)).bind fun y3 =>
    bif y3 then
      some (a1.From, (wr (a1.To + y1)))
    else
      some (a1.To, (wr (a1.From - y1)))

noncomputable def F_tow_ends : (TVoyage) → Option (Int × Int) := fun x => match x with
  | (a0) =>
    (idx? (a0.Runs) (0)).bind fun x1 =>
    (idx? (a0.Runs) ((wr (((a0.Runs).length : Int) - 1)))).bind fun x2 =>
    some (x1.From, x2.To)

noncomputable def F_tow_covers : (Int × Int × (List Int)) → Option (Bool) := fun x => match x with
  | (a0, a1, a2) =>
    (F_numbers_Within ((minmax false a0 a1), (minmax true a0 a1), a2)).bind fun y1 =>
    some y1

noncomputable def F_tow_onWay : (TVoyage × (List Int)) → Option (Bool) := fun x => match x with
  | (a0, a1) =>
    (F_tow_ends (a0)).bind fun y1 =>
    (F_tow_covers (y1.1, y1.2, a1)).bind fun y2 =>
    some y2

noncomputable def L_numbers_Sum_1 (a0 : List TBounds) : LoopD (Int × Int × Int) ((Int × Int)) (Unit) where
  step := fun s => match s with
    | (s1, s2, s3) =>
      bif (decide (s1 < ((a0).length : Int))) then
        (idx? (a0) (s1)).bind fun x5 =>
        some (.inl ((wr (s1 + 1)), (wr (s2 + x5.Low)), (wr (s3 + x5.High))))
      else
        some (.inr (s2, s3))
  at_ := fun s gh => match s, gh with
    | (s1, s2, s3), () => ⟨[(2, (V.box 0 0)), (3, (V.box 2 0)), (7, (V.sl (recs eTBounds (a0)) (a0).length)), (8, (V.v (.int .i64 (((a0).length : Int))))), (9, (V.v (.int .i64 (s1))))], [(0, Bx.var [(V.v (.int .i64 (0))), (V.v (.int .i64 (0)))] false), (2, Bx.var [(V.v (.int .i64 (s2))), (V.v (.int .i64 (s3)))] false)], 3⟩
noncomputable def F_numbers_Sum : ((List TBounds)) → Option (TBounds) := fun x => match x with
  | (a0) =>
    (loopC (L_numbers_Sum_1 a0).step (0, 0, 0)).bind fun e => match e with
    | (s6, s7) =>
      some (⟨s6, s7⟩ : TBounds)

noncomputable def F_tow_until : (TRun × Int) → Option (TBounds) := fun x => match x with
  | (a0, a1) =>
    (F_numbers_Up ((wr (60 * (minmax true (wr (a1 - a0.From)) (wr (a0.From - a1))))), a0.Speed.High)).bind fun y1 =>
    (F_numbers_Up ((wr (60 * (minmax true (wr (a1 - a0.From)) (wr (a0.From - a1))))), a0.Speed.Low)).bind fun y2 =>
    some (⟨(wr (a0.Wait.Low + y1)), (wr (a0.Wait.High + y2))⟩ : TBounds)

noncomputable def L_tow_arrive_1 (a1 : Int) (a0 : TVoyage) : LoopD (Int × Int × Int × Int) ((Int × Int)) (Unit) where
  step := fun s => match s with
    | (s2, s3, s4, s5) =>
      bif (decide (s3 < ((a0.Runs).length : Int))) then
        (idx? (a0.Runs) (s3)).bind fun x12 =>
        bif (s2 == a1) then
          some (.inr (s4, s5))
        else
          (F_tow_covers (x12.From, x12.To, ([a1] : List Int))).bind fun y13 =>
          bif y13 then
            (F_tow_until (x12, a1)).bind fun y14 =>
            (F_numbers_Sum (([(⟨s4, s5⟩ : TBounds), y14] : List TBounds))).bind fun y15 =>
            some (.inl (a1, (wr (s3 + 1)), y15.Low, y15.High))
          else
            (F_tow_until (x12, x12.To)).bind fun y16 =>
            (F_numbers_Sum (([(⟨s4, s5⟩ : TBounds), y16] : List TBounds))).bind fun y17 =>
            some (.inl (x12.To, (wr (s3 + 1)), y17.Low, y17.High))
      else
        some (.inr (s4, s5))
  at_ := fun s gh => match s, gh with
    | (s2, s3, s4, s5), () => ⟨[(1, (V.v (.int .i64 (a1)))), (4, (V.box 1 0)), (5, (V.box 9 0)), (6, (V.v (.int .i64 (s2)))), (17, (V.sl (recs eTRun (a0.Runs)) (a0.Runs).length)), (18, (V.v (.int .i64 (((a0.Runs).length : Int))))), (19, (V.v (.int .i64 (s3))))], [(1, Bx.var [(V.v (.int .i64 (0))), (V.v (.int .i64 (0)))] false), (9, Bx.var [(V.v (.int .i64 (s4))), (V.v (.int .i64 (s5)))] false)], 10⟩
noncomputable def F_tow_arrive : (TVoyage × Int) → Option (TBounds) := fun x => match x with
  | (a0, a1) =>
    (idx? (a0.Runs) (0)).bind fun x1 =>
    (loopC (L_tow_arrive_1 a1 a0).step (x1.From, 0, a0.Start.Low, a0.Start.High)).bind fun e => match e with
    | (s18, s19) =>
      some (⟨s18, s19⟩ : TBounds)

noncomputable def F_tow_near : (TVoyage × Int × Int) → Option (Bool) := fun x => match x with
  | (a0, a1, a2) =>
    (F_tow_ends (a0)).bind fun y1 =>
    bif (decide ((minmax false y1.1 y1.2) < (minmax true a1 a2))) then
      some (decide ((minmax true y1.1 y1.2) > (minmax false a1 a2)))
    else
      some false

noncomputable def F_tow_visit : (TVoyage × TNarrow) → Option (Ttow_stay × Int) := fun x => match x with
  | (a0, a1) =>
    (F_tow_Check (a0)).bind fun y1 =>
    bif (y1 != 0) then
      some ((⟨(⟨0, 0⟩ : TBounds), (⟨0, 0⟩ : TBounds), false⟩ : Ttow_stay), 2)
    else
      (F_tow_validNarrow (a1)).bind fun y2 =>
      bif (!y2) then
        some ((⟨(⟨0, 0⟩ : TBounds), (⟨0, 0⟩ : TBounds), false⟩ : Ttow_stay), 2)
      else
        (F_tow_gates (a0, a1)).bind fun y3 =>
        (F_tow_onWay (a0, ([y3.1, y3.2] : List Int))).bind fun y4 =>
        bif y4 then
          (F_tow_arrive (a0, y3.1)).bind fun y5 =>
          (F_tow_arrive (a0, y3.2)).bind fun y6 =>
          some ((⟨y5, y6, true⟩ : Ttow_stay), 0)
        else
          (F_tow_near (a0, y3.1, y3.2)).bind fun y7 =>
          bif y7 then
            some ((⟨(⟨0, 0⟩ : TBounds), (⟨0, 0⟩ : TBounds), false⟩ : Ttow_stay), 9)
          else
            some ((⟨(⟨0, 0⟩ : TBounds), (⟨0, 0⟩ : TBounds), false⟩ : Ttow_stay), 0)

noncomputable def F_tow_gather_1 : (TVoyage) → Option (Bool) := fun x => match x with
  | (a0) =>
    (F_tow_Check (a0)).bind fun y1 =>
    some (y1 == 0)

noncomputable def L_numbers_Every_Voyage_1 (a1 : (TVoyage → Option Bool)) (a0 : List TVoyage) (g : FuncId) (caps : List V) : LoopD (Int) (Unit ⊕ Bool) (Unit) where
  step := fun s => match s with
    | s1 =>
      bif (decide (s1 < ((a0).length : Int))) then
        (idx? (a0) (s1)).bind fun x4 =>
        (a1 (x4)).bind fun y5 =>
        bif (!y5) then
          some (.inr (.inr false))
        else
          some (.inl (wr (s1 + 1)))
      else
        some (.inr (.inl ()))
  at_ := fun s gh => match s, gh with
    | s1, () => ⟨[(1, (V.fn g caps)), (4, (V.v (.bool (false)))), (7, (V.sl (recs eTVoyage (a0)) (a0).length)), (8, (V.v (.int .i64 (((a0).length : Int))))), (9, (V.v (.int .i64 (s1))))], [], 0⟩
noncomputable def F_numbers_Every_Voyage : ((List TVoyage) × ((TVoyage → Option Bool)) × FuncId × (List V)) → Option (Bool) := fun x => match x with
  | (a0, a1, g, caps) =>
    (loopC (L_numbers_Every_Voyage_1 a1 a0 g caps).step 0).bind fun e => match e with
    | (.inl ()) =>
      some true
    | (.inr r6) =>
      some r6

noncomputable def L_numbers_Every_Narrow_1 (a1 : (TNarrow → Option Bool)) (a0 : List TNarrow) (g : FuncId) (caps : List V) : LoopD (Int) (Unit ⊕ Bool) (Unit) where
  step := fun s => match s with
    | s1 =>
      bif (decide (s1 < ((a0).length : Int))) then
        (idx? (a0) (s1)).bind fun x4 =>
        (a1 (x4)).bind fun y5 =>
        bif (!y5) then
          some (.inr (.inr false))
        else
          some (.inl (wr (s1 + 1)))
      else
        some (.inr (.inl ()))
  at_ := fun s gh => match s, gh with
    | s1, () => ⟨[(1, (V.fn g caps)), (4, (V.v (.bool (false)))), (7, (V.sl (recs eTNarrow (a0)) (a0).length)), (8, (V.v (.int .i64 (((a0).length : Int))))), (9, (V.v (.int .i64 (s1))))], [], 0⟩
noncomputable def F_numbers_Every_Narrow : ((List TNarrow) × ((TNarrow → Option Bool)) × FuncId × (List V)) → Option (Bool) := fun x => match x with
  | (a0, a1, g, caps) =>
    (loopC (L_numbers_Every_Narrow_1 a1 a0 g caps).step 0).bind fun e => match e with
    | (.inl ()) =>
      some true
    | (.inr r6) =>
      some r6

noncomputable def L_tow_gather_1 (a0 : List TVoyage) (a1 : List TNarrow) (s4 : Int) : LoopD (Int × (List (List Ttow_stay))) (((List (List Ttow_stay))) ⊕ (Ttow_fleet × Int)) (Unit) where
  step := fun s => match s with
    | (s28, s29) =>
      bif (decide (s28 < ((a1).length : Int))) then
        (idx? (a1) (s28)).bind fun x39 =>
        (idx? (a0) (s4)).bind fun x40 =>
        (F_tow_visit (x40, x39)).bind fun y41 =>
        bif (y41.2 != 0) then
          some (.inr (.inr ((⟨([] : List TVoyage), ([] : List TNarrow), ([] : List (List Ttow_stay))⟩ : Ttow_fleet), y41.2)))
        else
          (idx? (s29) (s4)).bind fun x42 =>
          (app? (x42) (([y41.1] : List Ttow_stay)) 40).bind fun l44 =>
          (idx? (s29) (s4)).bind fun x45 =>
          (set? (s29) (s4) (l44)).bind fun l47 =>
          some (.inl ((wr (s28 + 1)), l47))
      else
        some (.inr (.inl s29))
  at_ := fun s gh => match s, gh with
    | (s28, s29), () => ⟨[(0, (V.sl (recs eTVoyage (a0)) (a0).length)), (1, (V.sl (recs eTNarrow (a1)) (a1).length)), (4, (V.box 0 0)), (5, (V.v (.int .i64 (0)))), (7, (V.box 26 0)), (8, (V.v (.int .i64 (s4)))), (39, (V.v (.int .i64 (((a0).length : Int))))), (40, (V.v (.int .i64 (s4)))), (43, (V.sl (recs eTNarrow (a1)) (a1).length)), (44, (V.v (.int .i64 (((a1).length : Int))))), (45, (V.v (.int .i64 (s28))))], [(0, Bx.var [(V.v (.slice none 0 0)), (V.v (.slice none 0 0)), (V.v (.slice none 0 0))] false), (24, Bx.nest 72 71 5 (recs (eS eTtow_stay) (s29)) []), (26, Bx.var [(V.sl (recs eTVoyage (a0)) (a0).length), (V.sl (recs eTNarrow (a1)) (a1).length), (V.osl 24 (s29).length)] false)], 27⟩
noncomputable def L_tow_gather_2 (a0 : List TVoyage) (a1 : List TNarrow) : LoopD (Int × (List (List Ttow_stay))) (((List (List Ttow_stay))) ⊕ (Ttow_fleet × Int)) (Unit) where
  step := fun s => match s with
    | (s4, s5) =>
      bif (decide (s4 < ((a0).length : Int))) then
        (loopC (L_tow_gather_1 a0 a1 s4).step (0, s5)).bind fun e => match e with
        | (.inl s48) =>
          some (.inl ((wr (s4 + 1)), s48))
        | (.inr r49) =>
          some (.inr (.inr r49))
      else
        some (.inr (.inl s5))
  at_ := fun s gh => match s, gh with
    | (s4, s5), () => ⟨[(0, (V.sl (recs eTVoyage (a0)) (a0).length)), (1, (V.sl (recs eTNarrow (a1)) (a1).length)), (4, (V.box 0 0)), (5, (V.v (.int .i64 (0)))), (7, (V.box 26 0)), (39, (V.v (.int .i64 (((a0).length : Int))))), (40, (V.v (.int .i64 (s4))))], [(0, Bx.var [(V.v (.slice none 0 0)), (V.v (.slice none 0 0)), (V.v (.slice none 0 0))] false), (24, Bx.nest 72 71 5 (recs (eS eTtow_stay) (s5)) []), (26, Bx.var [(V.sl (recs eTVoyage (a0)) (a0).length), (V.sl (recs eTNarrow (a1)) (a1).length), (V.osl 24 (s5).length)] false)], 27⟩
noncomputable def F_tow_gather : ((List TVoyage) × (List TNarrow)) → Option (Ttow_fleet × Int) := fun x => match x with
  | (a0, a1) =>
    bif (decide (((a0).length : Int) > 12)) then
      some ((⟨([] : List TVoyage), ([] : List TNarrow), ([] : List (List Ttow_stay))⟩ : Ttow_fleet), 5)
    else
      bif (decide (((a1).length : Int) > 20)) then
        some ((⟨([] : List TVoyage), ([] : List TNarrow), ([] : List (List Ttow_stay))⟩ : Ttow_fleet), 5)
      else
        (F_numbers_Every_Voyage (a0, (fun q => F_tow_gather_1 (q)), 34, [])).bind fun y1 =>
        bif (!y1) then
          some ((⟨([] : List TVoyage), ([] : List TNarrow), ([] : List (List Ttow_stay))⟩ : Ttow_fleet), 2)
        else
          (F_numbers_Every_Narrow (a1, (fun q => F_tow_validNarrow (q)), 38, [])).bind fun y2 =>
          bif (!y2) then
            some ((⟨([] : List TVoyage), ([] : List TNarrow), ([] : List (List Ttow_stay))⟩ : Ttow_fleet), 2)
          else
            (mk? (([] : List Ttow_stay) : List Ttow_stay) (((a0).length : Int)) 24).bind fun l3 =>
            (loopC (L_tow_gather_2 a0 a1).step (0, l3)).bind fun e => match e with
            | (.inl s50) =>
              some ((⟨a0, a1, s50⟩ : Ttow_fleet), 0)
            | (.inr r51) =>
              some r51

noncomputable def F_tow_mayMeet : (Ttow_stay × Ttow_stay) → Option (Bool) := fun x => match x with
  | (a0, a1) =>
    bif a0.passes_ then
      bif a1.passes_ then
        bif (decide (a0.in_.Low ≤ a1.out_.High)) then
          some (decide (a1.in_.Low ≤ a0.out_.High))
        else
          some false
      else
        some false
    else
      some false

noncomputable def L_tow_Conflicts_1 (x150 : TVoyage) (x151 : TVoyage) (y1 : Ttow_fleet × Int) (a0 : List TVoyage) (s2 : Int) (s102 : Int) : LoopD (Int × (List TMeeting)) (((List TMeeting))) (Unit) where
  step := fun s => match s with
    | (s152, s153) =>
      bif (decide (s152 < ((y1.1.narrows_).length : Int))) then
        (idx? (y1.1.narrows_) (s152)).bind fun x175 =>
        bif x175.Single then
          (idx? (y1.1.stays_) (s2)).bind fun x176 =>
          (idx? (x176) (s152)).bind fun x177 =>
          bif x177.passes_ then
            (idx? (y1.1.stays_) (s102)).bind fun x178 =>
            (idx? (x178) (s152)).bind fun x179 =>
            bif x179.passes_ then
              (idx? (y1.1.stays_) (s2)).bind fun x180 =>
              (idx? (x180) (s152)).bind fun x181 =>
              (idx? (y1.1.stays_) (s102)).bind fun x182 =>
              (idx? (x182) (s152)).bind fun x183 =>
              (F_tow_mayMeet (x181, x183)).bind fun y184 =>
              bif y184 then
                (app? (s153) (([(⟨s2, s102, s152⟩ : TMeeting)] : List TMeeting)) 24).bind fun l185 =>
                some (.inl ((wr (s152 + 1)), l185))
              else
                some (.inl ((wr (s152 + 1)), s153))
            else
              some (.inl ((wr (s152 + 1)), s153))
          else
            some (.inl ((wr (s152 + 1)), s153))
        else
          bif (decide ((wr (x150.Width + x151.Width)) > x175.Width)) then
            (idx? (y1.1.stays_) (s2)).bind fun x186 =>
            (idx? (x186) (s152)).bind fun x187 =>
            bif x187.passes_ then
              (idx? (y1.1.stays_) (s102)).bind fun x188 =>
              (idx? (x188) (s152)).bind fun x189 =>
              bif x189.passes_ then
                (idx? (y1.1.stays_) (s2)).bind fun x190 =>
                (idx? (x190) (s152)).bind fun x191 =>
                (idx? (y1.1.stays_) (s102)).bind fun x192 =>
                (idx? (x192) (s152)).bind fun x193 =>
                (F_tow_mayMeet (x191, x193)).bind fun y194 =>
                bif y194 then
                  (app? (s153) (([(⟨s2, s102, s152⟩ : TMeeting)] : List TMeeting)) 24).bind fun l195 =>
                  some (.inl ((wr (s152 + 1)), l195))
                else
                  some (.inl ((wr (s152 + 1)), s153))
              else
                some (.inl ((wr (s152 + 1)), s153))
            else
              some (.inl ((wr (s152 + 1)), s153))
          else
            some (.inl ((wr (s152 + 1)), s153))
      else
        some (.inr s153)
  at_ := fun s gh => match s, gh with
    | (s152, s153), () => ⟨[(0, (V.yld 35)), (1, (V.box 29 0)), (2, (V.box 30 0)), (3, (V.box 31 0)), (5, (V.v (.int .i64 ((wr (x150.Width + x151.Width)))))), (23, (V.sl (recs eTNarrow (y1.1.narrows_)) (y1.1.narrows_).length)), (24, (V.v (.int .i64 (((y1.1.narrows_).length : Int))))), (25, (V.v (.int .i64 (s152))))], [(8, Bx.var [(V.sl (recs eTVoyage (y1.1.voyages_)) (y1.1.voyages_).length), (V.sl (recs eTNarrow (y1.1.narrows_)) (y1.1.narrows_).length), (V.sl (recs (eS eTtow_stay) (y1.1.stays_)) (y1.1.stays_).length)] false), (13, Bx.var [(V.osl 37 (s153).length)] false), (17, Bx.var [(V.v (.int .i64 (s2)))] false), (21, Bx.var [(V.v (.int .i64 (s102)))] false), (29, Bx.var [(V.sl (recs eTVoyage (y1.1.voyages_)) (y1.1.voyages_).length), (V.sl (recs eTNarrow (y1.1.narrows_)) (y1.1.narrows_).length), (V.sl (recs (eS eTtow_stay) (y1.1.stays_)) (y1.1.stays_).length)] false), (30, Bx.var [(V.v (.int .i64 (s2)))] false), (31, Bx.var [(V.v (.int .i64 (s102)))] false), (37, Bx.row 40 3 (recs eTMeeting (s153)) 0)], 38⟩
noncomputable def L_tow_Conflicts_2 (a0 : List TVoyage) (s2 : Int) (y1 : Ttow_fleet × Int) : LoopD ((List TMeeting) × Int) (((List TMeeting))) (Unit) where
  step := fun s => match s with
    | (s101, s102) =>
      bif (decide (s102 < ((a0).length : Int))) then
        (idx? (y1.1.voyages_) (s2)).bind fun x150 =>
        (idx? (y1.1.voyages_) (s102)).bind fun x151 =>
        (loopC (L_tow_Conflicts_1 x150 x151 y1 a0 s2 s102).step (0, s101)).bind fun e => match e with
        | s196 =>
          some (.inl (s196, (wr (s102 + 1))))
      else
        some (.inr s101)
  at_ := fun s gh => match s, gh with
    | (s101, s102), () => ⟨[(0, (V.sl (recs eTVoyage (a0)) (a0).length)), (4, (V.v (.slice none 0 0))), (5, (V.v (.int .i64 (0)))), (6, (V.box 8 0)), (8, (V.box 13 0)), (9, (V.box 17 0)), (10, (V.box 21 0)), (22, (V.v (.int .i64 (((a0).length : Int))))), (23, (V.v (.int .i64 (s2))))], [(8, Bx.var [(V.sl (recs eTVoyage (y1.1.voyages_)) (y1.1.voyages_).length), (V.sl (recs eTNarrow (y1.1.narrows_)) (y1.1.narrows_).length), (V.sl (recs (eS eTtow_stay) (y1.1.stays_)) (y1.1.stays_).length)] false), (13, Bx.var [(V.osl 14 (s101).length)] false), (14, Bx.row 40 3 (recs eTMeeting (s101)) 0), (17, Bx.var [(V.v (.int .i64 (s2)))] false), (21, Bx.var [(V.v (.int .i64 (s102)))] false)], 22⟩
noncomputable def L_tow_Conflicts_3 (a0 : List TVoyage) (y1 : Ttow_fleet × Int) : LoopD (Int × (List TMeeting)) (((List TMeeting))) (Unit) where
  step := fun s => match s with
    | (s2, s3) =>
      bif (decide (s2 < ((a0).length : Int))) then
        (loopC (L_tow_Conflicts_2 a0 s2 y1).step (s3, (wr (s2 + 1)))).bind fun e => match e with
        | s197 =>
          some (.inl ((wr (s2 + 1)), s197))
      else
        some (.inr s3)
  at_ := fun s gh => match s, gh with
    | (s2, s3), () => ⟨[(0, (V.sl (recs eTVoyage (a0)) (a0).length)), (4, (V.v (.slice none 0 0))), (5, (V.v (.int .i64 (0)))), (6, (V.box 8 0)), (8, (V.box 13 0)), (22, (V.v (.int .i64 (((a0).length : Int))))), (23, (V.v (.int .i64 (s2))))], [(8, Bx.var [(V.sl (recs eTVoyage (y1.1.voyages_)) (y1.1.voyages_).length), (V.sl (recs eTNarrow (y1.1.narrows_)) (y1.1.narrows_).length), (V.sl (recs (eS eTtow_stay) (y1.1.stays_)) (y1.1.stays_).length)] false), (13, Bx.var [(V.osl 14 (s3).length)] false), (14, Bx.row 40 3 (recs eTMeeting (s3)) 0)], 15⟩
noncomputable def F_tow_Conflicts : ((List TVoyage) × (List TNarrow)) → Option ((List TMeeting) × Int) := fun x => match x with
  | (a0, a1) =>
    (F_tow_gather (a0, a1)).bind fun y1 =>
    bif (y1.2 != 0) then
      some (([] : List TMeeting), y1.2)
    else
      (loopC (L_tow_Conflicts_3 a0 y1).step (0, ([] : List TMeeting))).bind fun e => match e with
      | s198 =>
        some (s198, 0)

noncomputable def L_thalweglaw03_unchanged_1 (a0 : List TVoyage) (a1 : List TVoyage) (s1 : Int) : LoopD (Int) (Unit ⊕ Bool) (Unit) where
  step := fun s => match s with
    | s30 =>
      (idx? (a0) (s1)).bind fun x36 =>
      bif (decide (s30 < ((x36.Runs).length : Int))) then
        (idx? (a0) (s1)).bind fun x37 =>
        (idx? (x37.Runs) (s30)).bind fun x38 =>
        (idx? (a1) (s1)).bind fun x39 =>
        (idx? (x39.Runs) (s30)).bind fun x40 =>
        bif (!(x38.From == x40.From && (x38.To == x40.To && (x38.Speed.Low == x40.Speed.Low && (x38.Speed.High == x40.Speed.High && (x38.Wait.Low == x40.Wait.Low && (x38.Wait.High == x40.Wait.High && true))))))) then
          some (.inr (.inr false))
        else
          some (.inl (wr (s30 + 1)))
      else
        some (.inr (.inl ()))
  at_ := fun s gh => match s, gh with
    | s30, () => ⟨[(0, (V.sl (recs eTVoyage (a0)) (a0).length)), (1, (V.sl (recs eTVoyage (a1)) (a1).length)), (4, (V.v (.bool (false)))), (5, (V.v (.int .i64 (s1)))), (6, (V.v (.int .i64 (s30))))], [], 0⟩
noncomputable def L_thalweglaw03_unchanged_2 (a0 : List TVoyage) (a1 : List TVoyage) : LoopD (Int) (Unit ⊕ Bool) (Unit) where
  step := fun s => match s with
    | s1 =>
      bif (decide (s1 < ((a0).length : Int))) then
        (idx? (a0) (s1)).bind fun x22 =>
        (idx? (a1) (s1)).bind fun x23 =>
        bif (!(x22.Start.Low == x23.Start.Low && (x22.Start.High == x23.Start.High && true))) then
          some (.inr (.inr false))
        else
          (idx? (a0) (s1)).bind fun x24 =>
          (idx? (a1) (s1)).bind fun x25 =>
          bif (x24.Length != x25.Length) then
            some (.inr (.inr false))
          else
            (idx? (a0) (s1)).bind fun x26 =>
            (idx? (a1) (s1)).bind fun x27 =>
            bif (x26.Width != x27.Width) then
              some (.inr (.inr false))
            else
              (idx? (a0) (s1)).bind fun x28 =>
              (idx? (a1) (s1)).bind fun x29 =>
              bif (((x28.Runs).length : Int) != ((x29.Runs).length : Int)) then
                some (.inr (.inr false))
              else
                (loopC (L_thalweglaw03_unchanged_1 a0 a1 s1).step 0).bind fun e => match e with
                | (.inl ()) =>
                  some (.inl (wr (s1 + 1)))
                | (.inr r41) =>
                  some (.inr (.inr r41))
      else
        some (.inr (.inl ()))
  at_ := fun s gh => match s, gh with
    | s1, () => ⟨[(0, (V.sl (recs eTVoyage (a0)) (a0).length)), (1, (V.sl (recs eTVoyage (a1)) (a1).length)), (4, (V.v (.bool (false)))), (5, (V.v (.int .i64 (s1))))], [], 0⟩
noncomputable def F_thalweglaw03_unchanged : ((List TVoyage) × (List TVoyage)) → Option (Bool) := fun x => match x with
  | (a0, a1) =>
    bif (((a0).length : Int) != ((a1).length : Int)) then
      some false
    else
      (loopC (L_thalweglaw03_unchanged_2 a0 a1).step 0).bind fun e => match e with
      | (.inl ()) =>
        some true
      | (.inr r42) =>
        some r42

noncomputable def F_thalwegref03_in : (Int × Int × Int) → Option (Bool) := fun x => match x with
  | (a0, a1, a2) =>
    bif (decide (a0 ≥ a1)) then
      some (decide (a0 ≤ a2))
    else
      some false

noncomputable def F_thalwegref03_valid : (TBounds × Int × Int) → Option (Bool) := fun x => match x with
  | (a0, a1, a2) =>
    (F_thalwegref03_in (a0.Low, a1, a2)).bind fun y1 =>
    bif y1 then
      (F_thalwegref03_in (a0.High, a0.Low, a2)).bind fun y2 =>
      some y2
    else
      some false

noncomputable def L_thalwegref03_Voyage_1 (a0 : TVoyage) : LoopD (Int) (Unit ⊕ Bool) (Unit) where
  step := fun s => match s with
    | s5 =>
      bif (decide (s5 < ((a0.Runs).length : Int))) then
        (idx? (a0.Runs) (s5)).bind fun x14 =>
        (F_thalwegref03_in (x14.From, 0, 100000)).bind fun y15 =>
        bif (!y15) then
          some (.inr (.inr false))
        else
          (F_thalwegref03_in (x14.To, 0, 100000)).bind fun y16 =>
          bif (!y16) then
            some (.inr (.inr false))
          else
            bif (x14.From == x14.To) then
              some (.inr (.inr false))
            else
              (F_thalwegref03_valid (x14.Speed, 1, 400)).bind fun y17 =>
              bif (!y17) then
                some (.inr (.inr false))
              else
                (F_thalwegref03_valid (x14.Wait, 0, 5000)).bind fun y18 =>
                bif (!y18) then
                  some (.inr (.inr false))
                else
                  bif (decide (s5 > 0)) then
                    (idx? (a0.Runs) ((wr (s5 - 1)))).bind fun x19 =>
                    bif (x14.From != x19.To) then
                      some (.inr (.inr false))
                    else
                      (idx? (a0.Runs) (0)).bind fun x20 =>
                      (idx? (a0.Runs) (0)).bind fun x21 =>
                      bif (!((decide (x14.To > x14.From)) == (decide (x20.To > x21.From)))) then
                        some (.inr (.inr false))
                      else
                        some (.inl (wr (s5 + 1)))
                  else
                    some (.inl (wr (s5 + 1)))
      else
        some (.inr (.inl ()))
  at_ := fun s gh => match s, gh with
    | s5, () => ⟨[(1, (V.box 0 0)), (2, (V.v (.bool (false)))), (3, (V.v (.int .i64 (s5))))], [(0, Bx.var [(V.v (.int .i64 (a0.Start.Low))), (V.v (.int .i64 (a0.Start.High))), (V.sl (recs eTRun (a0.Runs)) (a0.Runs).length), (V.v (.int .i64 (a0.Length))), (V.v (.int .i64 (a0.Width)))] false)], 1⟩
noncomputable def F_thalwegref03_Voyage : (TVoyage) → Option (Bool) := fun x => match x with
  | (a0) =>
    (F_thalwegref03_valid (a0.Start, 0, 1000000)).bind fun y1 =>
    bif (!y1) then
      some false
    else
      (F_thalwegref03_in (((a0.Runs).length : Int), 1, 20)).bind fun y2 =>
      bif (!y2) then
        some false
      else
        (F_thalwegref03_in (a0.Length, 1, 3000)).bind fun y3 =>
        bif (!y3) then
          some false
        else
          (F_thalwegref03_in (a0.Width, 1, 200)).bind fun y4 =>
          bif (!y4) then
            some false
          else
            (loopC (L_thalwegref03_Voyage_1 a0).step 0).bind fun e => match e with
            | (.inl ()) =>
              some true
            | (.inr r22) =>
              some r22

noncomputable def F_thalwegref03_Narrow : (TNarrow) → Option (Bool) := fun x => match x with
  | (a0) =>
    (F_thalwegref03_in (a0.From, 0, 100000)).bind fun y1 =>
    bif y1 then
      (F_thalwegref03_in (a0.To, (wr (a0.From + 1)), 100000)).bind fun y2 =>
      bif y2 then
        (F_thalwegref03_in (a0.Width, 1, 200)).bind fun y3 =>
        some y3
      else
        some false
    else
      some false

noncomputable def F_thalwegref03_Ends : (TVoyage) → Option (Int × Int) := fun x => match x with
  | (a0) =>
    (idx? (a0.Runs) (0)).bind fun x1 =>
    (idx? (a0.Runs) ((wr (((a0.Runs).length : Int) - 1)))).bind fun x2 =>
    some (x1.From, x2.To)

noncomputable def F_thalwegref03_between : (Int × Int × Int) → Option (Bool) := fun x => match x with
  | (a0, a1, a2) =>
    bif (decide (a0 ≥ (minmax false a1 a2))) then
      some (decide (a0 ≤ (minmax true a1 a2)))
    else
      some false

noncomputable def F_thalwegref03_On : (TVoyage × Int) → Option (Bool) := fun x => match x with
  | (a0, a1) =>
    (F_thalwegref03_Ends (a0)).bind fun y1 =>
    (F_thalwegref03_between (a1, y1.1, y1.2)).bind fun y2 =>
    some y2

noncomputable def F_thalwegref03_minutes : (Int × Int × Int) → Option (Int) := fun x => match x with
  | (a0, a1, a2) =>
    (nz? (a2)).bind fun _ =>
    some (wr (Int.tdiv (wr ((wr ((wr (60 * (minmax true (wr (a0 - a1)) (wr (a1 - a0))))) + a2)) - 1)) a2))

noncomputable def L_thalwegref03_Arrive_1 (a1 : Int) (a0 : TVoyage) : LoopD (Int × Int × Int) ((Int × Int) ⊕ TBounds) (Unit) where
  step := fun s => match s with
    | (s1, s2, s3) =>
      bif (decide (s1 < ((a0.Runs).length : Int))) then
        (idx? (a0.Runs) (s1)).bind fun x10 =>
        bif (a1 == x10.From) then
          some (.inr (.inr (⟨s2, s3⟩ : TBounds)))
        else
          (F_thalwegref03_between (a1, x10.From, x10.To)).bind fun y11 =>
          bif y11 then
            (F_thalwegref03_minutes (x10.From, a1, x10.Speed.High)).bind fun y12 =>
            (F_thalwegref03_minutes (x10.From, a1, x10.Speed.Low)).bind fun y13 =>
            bif (a1 == a1) then
              some (.inr (.inr (⟨(wr (s2 + (wr (x10.Wait.Low + y12)))), (wr (s3 + (wr (x10.Wait.High + y13))))⟩ : TBounds)))
            else
              some (.inl ((wr (s1 + 1)), (wr (s2 + (wr (x10.Wait.Low + y12)))), (wr (s3 + (wr (x10.Wait.High + y13))))))
          else
            (F_thalwegref03_minutes (x10.From, x10.To, x10.Speed.High)).bind fun y14 =>
            (F_thalwegref03_minutes (x10.From, x10.To, x10.Speed.Low)).bind fun y15 =>
            bif (x10.To == a1) then
              some (.inr (.inr (⟨(wr (s2 + (wr (x10.Wait.Low + y14)))), (wr (s3 + (wr (x10.Wait.High + y15))))⟩ : TBounds)))
            else
              some (.inl ((wr (s1 + 1)), (wr (s2 + (wr (x10.Wait.Low + y14)))), (wr (s3 + (wr (x10.Wait.High + y15))))))
      else
        some (.inr (.inl (s2, s3)))
  at_ := fun s gh => match s, gh with
    | (s1, s2, s3), () => ⟨[(1, (V.v (.int .i64 (a1)))), (2, (V.box 0 0)), (4, (V.box 1 0)), (5, (V.box 4 0)), (6, (V.v (.int .i64 (s1))))], [(0, Bx.var [(V.v (.int .i64 (a0.Start.Low))), (V.v (.int .i64 (a0.Start.High))), (V.sl (recs eTRun (a0.Runs)) (a0.Runs).length), (V.v (.int .i64 (a0.Length))), (V.v (.int .i64 (a0.Width)))] false), (1, Bx.var [(V.v (.int .i64 (0))), (V.v (.int .i64 (0)))] false), (4, Bx.var [(V.v (.int .i64 (s2))), (V.v (.int .i64 (s3)))] false)], 5⟩
noncomputable def F_thalwegref03_Arrive : (TVoyage × Int) → Option (TBounds) := fun x => match x with
  | (a0, a1) =>
    (loopC (L_thalwegref03_Arrive_1 a1 a0).step (0, a0.Start.Low, a0.Start.High)).bind fun e => match e with
    | (.inl (s16, s17)) =>
      some (⟨s16, s17⟩ : TBounds)
    | (.inr r18) =>
      some r18

noncomputable def F_thalwegref03_Through : (TVoyage × TNarrow) → Option (TBounds × TBounds × Bool × Int) := fun x => match x with
  | (a0, a1) =>
    (F_thalwegref03_Ends (a0)).bind fun y1 =>
    bif (decide (y1.1 < (wr (a1.To + (wr (Int.tdiv (wr (a0.Length + 99)) 100)))))) then
      bif (decide (y1.2 < y1.1)) then
        bif (decide (y1.1 > (wr (a1.From - (wr (Int.tdiv (wr (a0.Length + 99)) 100)))))) then
          bif (!(decide (y1.2 < a1.To))) then
            some ((⟨0, 0⟩ : TBounds), (⟨0, 0⟩ : TBounds), false, 0)
          else
            (F_thalwegref03_On (a0, a1.To)).bind fun y2 =>
            bif (!y2) then
              some ((⟨0, 0⟩ : TBounds), (⟨0, 0⟩ : TBounds), false, 9)
            else
              (F_thalwegref03_On (a0, (wr (a1.From - (wr (Int.tdiv (wr (a0.Length + 99)) 100)))))).bind fun y3 =>
              bif (!y3) then
                some ((⟨0, 0⟩ : TBounds), (⟨0, 0⟩ : TBounds), false, 9)
              else
                (F_thalwegref03_Arrive (a0, a1.To)).bind fun y4 =>
                (F_thalwegref03_Arrive (a0, (wr (a1.From - (wr (Int.tdiv (wr (a0.Length + 99)) 100)))))).bind fun y5 =>
                some (y4, y5, true, 0)
        else
          some ((⟨0, 0⟩ : TBounds), (⟨0, 0⟩ : TBounds), false, 0)
      else
        bif (!(decide (y1.2 > a1.From))) then
          some ((⟨0, 0⟩ : TBounds), (⟨0, 0⟩ : TBounds), false, 0)
        else
          (F_thalwegref03_On (a0, a1.From)).bind fun y6 =>
          bif (!y6) then
            some ((⟨0, 0⟩ : TBounds), (⟨0, 0⟩ : TBounds), false, 9)
          else
            (F_thalwegref03_On (a0, (wr (a1.To + (wr (Int.tdiv (wr (a0.Length + 99)) 100)))))).bind fun y7 =>
            bif (!y7) then
              some ((⟨0, 0⟩ : TBounds), (⟨0, 0⟩ : TBounds), false, 9)
            else
              (F_thalwegref03_Arrive (a0, a1.From)).bind fun y8 =>
              (F_thalwegref03_Arrive (a0, (wr (a1.To + (wr (Int.tdiv (wr (a0.Length + 99)) 100)))))).bind fun y9 =>
              some (y8, y9, true, 0)
    else
      bif (decide (y1.2 < y1.1)) then
        bif (decide (y1.1 > (wr (a1.From - (wr (Int.tdiv (wr (a0.Length + 99)) 100)))))) then
          bif (!(decide (y1.2 < a1.To))) then
            some ((⟨0, 0⟩ : TBounds), (⟨0, 0⟩ : TBounds), false, 0)
          else
            (F_thalwegref03_On (a0, a1.To)).bind fun y10 =>
            bif (!y10) then
              some ((⟨0, 0⟩ : TBounds), (⟨0, 0⟩ : TBounds), false, 9)
            else
              (F_thalwegref03_On (a0, (wr (a1.From - (wr (Int.tdiv (wr (a0.Length + 99)) 100)))))).bind fun y11 =>
              bif (!y11) then
                some ((⟨0, 0⟩ : TBounds), (⟨0, 0⟩ : TBounds), false, 9)
              else
                (F_thalwegref03_Arrive (a0, a1.To)).bind fun y12 =>
                (F_thalwegref03_Arrive (a0, (wr (a1.From - (wr (Int.tdiv (wr (a0.Length + 99)) 100)))))).bind fun y13 =>
                some (y12, y13, true, 0)
        else
          some ((⟨0, 0⟩ : TBounds), (⟨0, 0⟩ : TBounds), false, 0)
      else
        some ((⟨0, 0⟩ : TBounds), (⟨0, 0⟩ : TBounds), false, 0)

noncomputable def L_thalwegref03_Start_1 (a0 : List TVoyage) (a1 : List TNarrow) : LoopD (Int) (Unit ⊕ Int) (Unit) where
  step := fun s => match s with
    | s1 =>
      bif (decide (s1 < ((a0).length : Int))) then
        (idx? (a0) (s1)).bind fun x4 =>
        (F_thalwegref03_Voyage (x4)).bind fun y5 =>
        bif (!y5) then
          some (.inr (.inr 2))
        else
          some (.inl (wr (s1 + 1)))
      else
        some (.inr (.inl ()))
  at_ := fun s gh => match s, gh with
    | s1, () => ⟨[(0, (V.sl (recs eTVoyage (a0)) (a0).length)), (1, (V.sl (recs eTNarrow (a1)) (a1).length)), (4, (V.v (.int .i64 (0)))), (5, (V.v (.int .i64 (s1))))], [], 0⟩
noncomputable def L_thalwegref03_Start_2 (a0 : List TVoyage) (a1 : List TNarrow) : LoopD (Int) (Unit ⊕ Int) (Unit) where
  step := fun s => match s with
    | s6 =>
      bif (decide (s6 < ((a1).length : Int))) then
        (idx? (a1) (s6)).bind fun x9 =>
        (F_thalwegref03_Narrow (x9)).bind fun y10 =>
        bif (!y10) then
          some (.inr (.inr 2))
        else
          some (.inl (wr (s6 + 1)))
      else
        some (.inr (.inl ()))
  at_ := fun s gh => match s, gh with
    | s6, () => ⟨[(0, (V.sl (recs eTVoyage (a0)) (a0).length)), (1, (V.sl (recs eTNarrow (a1)) (a1).length)), (4, (V.v (.int .i64 (0)))), (6, (V.v (.int .i64 (s6))))], [], 0⟩
noncomputable def L_thalwegref03_Start_3 (a0 : List TVoyage) (a1 : List TNarrow) (s11 : Int) : LoopD (Int) (Unit ⊕ Int) (Unit) where
  step := fun s => match s with
    | s20 =>
      bif (decide (s20 < ((a1).length : Int))) then
        (idx? (a0) (s11)).bind fun x24 =>
        (idx? (a1) (s20)).bind fun x25 =>
        (F_thalwegref03_Through (x24, x25)).bind fun y26 =>
        bif (y26.2.2.2 != 0) then
          some (.inr (.inr y26.2.2.2))
        else
          some (.inl (wr (s20 + 1)))
      else
        some (.inr (.inl ()))
  at_ := fun s gh => match s, gh with
    | s20, () => ⟨[(0, (V.sl (recs eTVoyage (a0)) (a0).length)), (1, (V.sl (recs eTNarrow (a1)) (a1).length)), (4, (V.v (.int .i64 (0)))), (7, (V.v (.int .i64 (s11)))), (8, (V.v (.int .i64 (s20))))], [], 0⟩
noncomputable def L_thalwegref03_Start_4 (a0 : List TVoyage) (a1 : List TNarrow) : LoopD (Int) (Unit ⊕ Int) (Unit) where
  step := fun s => match s with
    | s11 =>
      bif (decide (s11 < ((a0).length : Int))) then
        (loopC (L_thalwegref03_Start_3 a0 a1 s11).step 0).bind fun e => match e with
        | (.inl ()) =>
          some (.inl (wr (s11 + 1)))
        | (.inr r27) =>
          some (.inr (.inr r27))
      else
        some (.inr (.inl ()))
  at_ := fun s gh => match s, gh with
    | s11, () => ⟨[(0, (V.sl (recs eTVoyage (a0)) (a0).length)), (1, (V.sl (recs eTNarrow (a1)) (a1).length)), (4, (V.v (.int .i64 (0)))), (7, (V.v (.int .i64 (s11))))], [], 0⟩
noncomputable def F_thalwegref03_Start : ((List TVoyage) × (List TNarrow)) → Option (Int) := fun x => match x with
  | (a0, a1) =>
    bif (decide (((a0).length : Int) > 12)) then
      some 5
    else
      bif (decide (((a1).length : Int) > 20)) then
        some 5
      else
        (loopC (L_thalwegref03_Start_1 a0 a1).step 0).bind fun e => match e with
        | (.inl ()) =>
          (loopC (L_thalwegref03_Start_2 a0 a1).step 0).bind fun e => match e with
          | (.inl ()) =>
            (loopC (L_thalwegref03_Start_4 a0 a1).step 0).bind fun e => match e with
            | (.inl ()) =>
              some 0
            | (.inr r28) =>
              some r28
          | (.inr r29) =>
            some r29
        | (.inr r30) =>
          some r30

noncomputable def F_thalwegref03_Meet : (TVoyage × TVoyage × TNarrow) → Option (Bool × Bool × Int) := fun x => match x with
  | (a0, a1, a2) =>
    (F_thalwegref03_Through (a0, a2)).bind fun y1 =>
    bif (y1.2.2.2 != 0) then
      some (false, false, y1.2.2.2)
    else
      (F_thalwegref03_Through (a1, a2)).bind fun y2 =>
      bif (y2.2.2.2 != 0) then
        some (false, false, y2.2.2.2)
      else
        bif (!y1.2.2.1) then
          some (false, false, y2.2.2.2)
        else
          bif (!y2.2.2.1) then
            some (false, false, y2.2.2.2)
          else
            bif (decide (y1.1.Low ≤ y2.2.1.High)) then
              bif (decide (y1.1.High ≤ y2.2.1.Low)) then
                some ((decide (y2.1.Low ≤ y1.2.1.High)), (decide (y2.1.High ≤ y1.2.1.Low)), 0)
              else
                some ((decide (y2.1.Low ≤ y1.2.1.High)), false, 0)
            else
              bif (decide (y1.1.High ≤ y2.2.1.Low)) then
                some (false, (decide (y2.1.High ≤ y1.2.1.Low)), 0)
              else
                some (false, false, 0)

noncomputable def F_thalwegref03_Bars : (TVoyage × TVoyage × TNarrow) → Option (Bool) := fun x => match x with
  | (a0, a1, a2) =>
    (F_thalwegref03_Meet (a0, a1, a2)).bind fun y1 =>
    bif y1.1 then
      bif a2.Single then
        some true
      else
        some (decide ((wr (a0.Width + a1.Width)) > a2.Width))
    else
      some false

noncomputable def L_thalwegref03_Conflicts_1 (a0 : List TVoyage) (a1 : List TNarrow) (s1 : Int) (s32 : Int) : LoopD (Int × (List TMeeting)) (((List TMeeting))) (Unit) where
  step := fun s => match s with
    | (s47, s48) =>
      bif (decide (s47 < ((a1).length : Int))) then
        (idx? (a0) (s1)).bind fun x54 =>
        (idx? (a0) (s32)).bind fun x55 =>
        (idx? (a1) (s47)).bind fun x56 =>
        (F_thalwegref03_Bars (x54, x55, x56)).bind fun y57 =>
        bif y57 then
          (app? (s48) (([(⟨s1, s32, s47⟩ : TMeeting)] : List TMeeting)) 24).bind fun l58 =>
          some (.inl ((wr (s47 + 1)), l58))
        else
          some (.inl ((wr (s47 + 1)), s48))
      else
        some (.inr s48)
  at_ := fun s gh => match s, gh with
    | (s47, s48), () => ⟨[(0, (V.sl (recs eTVoyage (a0)) (a0).length)), (1, (V.sl (recs eTNarrow (a1)) (a1).length)), (4, (V.v (.slice none 0 0))), (5, (V.osl 1 (s48).length)), (6, (V.v (.int .i64 (s1)))), (7, (V.v (.int .i64 (s32)))), (8, (V.v (.int .i64 (s47))))], [(1, Bx.row 40 3 (recs eTMeeting (s48)) 0)], 2⟩
noncomputable def L_thalwegref03_Conflicts_2 (a0 : List TVoyage) (a1 : List TNarrow) (s1 : Int) : LoopD (Int × (List TMeeting)) (((List TMeeting))) (Unit) where
  step := fun s => match s with
    | (s32, s33) =>
      bif (decide (s32 < ((a0).length : Int))) then
        (loopC (L_thalwegref03_Conflicts_1 a0 a1 s1 s32).step (0, s33)).bind fun e => match e with
        | s59 =>
          some (.inl ((wr (s32 + 1)), s59))
      else
        some (.inr s33)
  at_ := fun s gh => match s, gh with
    | (s32, s33), () => ⟨[(0, (V.sl (recs eTVoyage (a0)) (a0).length)), (1, (V.sl (recs eTNarrow (a1)) (a1).length)), (4, (V.v (.slice none 0 0))), (5, (V.osl 1 (s33).length)), (6, (V.v (.int .i64 (s1)))), (7, (V.v (.int .i64 (s32))))], [(1, Bx.row 40 3 (recs eTMeeting (s33)) 0)], 2⟩
noncomputable def L_thalwegref03_Conflicts_3 (a0 : List TVoyage) (a1 : List TNarrow) : LoopD (Int × (List TMeeting)) (((List TMeeting))) (Unit) where
  step := fun s => match s with
    | (s1, s2) =>
      bif (decide (s1 < ((a0).length : Int))) then
        (loopC (L_thalwegref03_Conflicts_2 a0 a1 s1).step ((wr (s1 + 1)), s2)).bind fun e => match e with
        | s60 =>
          some (.inl ((wr (s1 + 1)), s60))
      else
        some (.inr s2)
  at_ := fun s gh => match s, gh with
    | (s1, s2), () => ⟨[(0, (V.sl (recs eTVoyage (a0)) (a0).length)), (1, (V.sl (recs eTNarrow (a1)) (a1).length)), (4, (V.v (.slice none 0 0))), (5, (V.osl 1 (s2).length)), (6, (V.v (.int .i64 (s1))))], [(1, Bx.row 40 3 (recs eTMeeting (s2)) 0)], 2⟩
noncomputable def F_thalwegref03_Conflicts : ((List TVoyage) × (List TNarrow)) → Option (List TMeeting) := fun x => match x with
  | (a0, a1) =>
    (loopC (L_thalwegref03_Conflicts_3 a0 a1).step (0, ([] : List TMeeting))).bind fun e => match e with
    | s61 =>
      some s61

noncomputable def L_thalweglaw03_TowConflicts_1 (y4 : List TNarrow) (y5 : (List TMeeting) × Int) (a0 : Tthalweglaw03_Traffic) : LoopD (Int) (Unit ⊕ Bool) (Unit) where
  step := fun s => match s with
    | s7 =>
      bif (decide (s7 < ((y4).length : Int))) then
        (idx? (y4) (s7)).bind fun x10 =>
        (idx? (a0.Narrows) (s7)).bind fun x11 =>
        bif (!(x10.From == x11.From && (x10.To == x11.To && (x10.Width == x11.Width && (x10.Single == x11.Single && true))))) then
          some (.inr (.inr false))
        else
          some (.inl (wr (s7 + 1)))
      else
        some (.inr (.inl ()))
  at_ := fun s gh => match s, gh with
    | s7, () => ⟨[(1, (V.box 0 0)), (2, (V.v (.bool (false)))), (4, (V.sl (recs eTNarrow (y4)) (y4).length)), (5, (V.sl (recs eTMeeting (y5.1)) (y5.1).length)), (6, (V.v (.int .i64 (y5.2)))), (7, (V.v (.int .i64 (s7))))], [(0, Bx.var [(V.sl (recs eTVoyage (a0.Voyages)) (a0.Voyages).length), (V.sl (recs eTNarrow (a0.Narrows)) (a0.Narrows).length)] false)], 1⟩
noncomputable def L_thalweglaw03_TowConflicts_2 (y5 : (List TMeeting) × Int) (y14 : List TMeeting) : LoopD (Int) (Unit ⊕ Bool) (Unit) where
  step := fun s => match s with
    | s15 =>
      bif (decide (s15 < ((y14).length : Int))) then
        (idx? (y5.1) (s15)).bind fun x18 =>
        (idx? (y14) (s15)).bind fun x19 =>
        bif (!(x18.First == x19.First && (x18.Second == x19.Second && (x18.Narrow == x19.Narrow && true)))) then
          some (.inr (.inr false))
        else
          some (.inl (wr (s15 + 1)))
      else
        some (.inr (.inl ()))
  at_ := fun s gh => match s, gh with
    | s15, () => ⟨[(2, (V.v (.bool (false)))), (5, (V.sl (recs eTMeeting (y5.1)) (y5.1).length)), (9, (V.sl (recs eTMeeting (y14)) (y14).length)), (10, (V.v (.int .i64 (s15))))], [], 0⟩
noncomputable def F_thalweglaw03_TowConflicts : (Tthalweglaw03_Traffic) → Option (Bool) := fun x => match x with
  | (a0) =>
    (F_thalweglaw03_large (a0)).bind fun y1 =>
    bif y1 then
      (F_thalweglaw03_known ()).bind fun y2 =>
      some y2
    else
      (F_thalweglaw03_all (a0.Voyages)).bind fun y3 =>
      (F_thalweglaw03_narrows (a0.Narrows)).bind fun y4 =>
      (F_tow_Conflicts (y3, y4)).bind fun y5 =>
      (F_thalweglaw03_unchanged (y3, a0.Voyages)).bind fun y6 =>
      bif (!y6) then
        some false
      else
        (loopC (L_thalweglaw03_TowConflicts_1 y4 y5 a0).step 0).bind fun e => match e with
        | (.inl ()) =>
          (F_thalwegref03_Start (a0.Voyages, a0.Narrows)).bind fun y12 =>
          bif (y12 != 0) then
            bif (y5.2 == y12) then
              bif (((y5.1).length : Int) == 0) then
                (F_thalweglaw03_known ()).bind fun y13 =>
                some y13
              else
                some false
            else
              some false
          else
            (F_thalwegref03_Conflicts (a0.Voyages, a0.Narrows)).bind fun y14 =>
            bif (y5.2 != 0) then
              some false
            else
              bif (((y5.1).length : Int) != ((y14).length : Int)) then
                some false
              else
                (loopC (L_thalweglaw03_TowConflicts_2 y5 y14).step 0).bind fun e => match e with
                | (.inl ()) =>
                  (F_thalweglaw03_known ()).bind fun y20 =>
                  some y20
                | (.inr r21) =>
                  some r21
        | (.inr r22) =>
          some r22
end Go.Ev
/- What the arguments of the law are. -/
set_option linter.unusedVariables false
set_option linter.unusedSimpArgs false
namespace Go.Ev
open Go.Proofs
set_option maxRecDepth 100000
theorem typ_list {α : Type} {enc : α → List V} {k : α → Prop} {n : Nat} {e : TypeId} (h : ∀ vs, Typ Try.prog n e vs → ∃ a, vs = enc a ∧ k a) : ∀ (ls : List (List V)), (∀ l ∈ ls, Typ Try.prog n e l) → ∃ l : List α, ls.flatten = recs enc l ∧ ls.length = l.length ∧ ∀ x ∈ l, k x
  | [], _ => ⟨[], rfl, rfl, fun x hx => by cases hx⟩
  | x :: ls, hl => by
    obtain ⟨a, rfl, ha⟩ := h x (hl x (by simp))
    obtain ⟨l, h1, h2, h3⟩ := typ_list h ls fun y hy => hl y (by simp [hy])
    refine ⟨a :: l, by simp [recs, List.flatten_cons, h1], by simp [h2], ?_⟩
    intro x hx
    cases hx with
    | head => exact ha
    | tail _ hx => exact h3 x hx
def kIi64 (i : Int) : Prop := IntKind.i64.min ≤ i ∧ i ≤ IntKind.i64.max
theorem typ_Ii64_3 {n : Nat} {vs : List V} (h : Typ Try.prog (n + 1) 3 vs) : ∃ x : Int, vs = [(V.v (.int .i64 (x)))] ∧ kIi64 (x) := by
  simp only [Typ, Try.underlying3] at h
  obtain ⟨i, rfl, hw⟩ := h
  refine ⟨i, rfl, ?_⟩
  simp only [Lit.wf, Bool.and_eq_true, decide_eq_true_eq] at hw
  exact hw
def kTBounds (x : TBounds) : Prop := kIi64 (x.Low) ∧ kIi64 (x.High)
theorem typ_TBounds_42 {n : Nat} {vs : List V} (h : Typ Try.prog (n + 2) 42 vs) : ∃ x : TBounds, vs = eTBounds x ∧ kTBounds x := by
  unfold Typ at h
  simp only [Try.underlying42] at h
  obtain ⟨ls, rfl, h⟩ := h
  obtain ⟨v0, v1, rfl, h0, h1⟩ := all2_2 h
  obtain ⟨x0, rfl, k0⟩ := typ_Ii64_3 (n := n + 0) h0
  obtain ⟨x1, rfl, k1⟩ := typ_Ii64_3 (n := n + 0) h1
  exact ⟨⟨x0, x1⟩, rfl, k0, k1⟩
def kTRun (x : TRun) : Prop := kIi64 (x.From) ∧ kIi64 (x.To) ∧ kTBounds (x.Speed) ∧ kTBounds (x.Wait)
theorem typ_TRun_47 {n : Nat} {vs : List V} (h : Typ Try.prog (n + 3) 47 vs) : ∃ x : TRun, vs = eTRun x ∧ kTRun x := by
  unfold Typ at h
  simp only [Try.underlying47] at h
  obtain ⟨ls, rfl, h⟩ := h
  obtain ⟨v0, v1, v2, v3, rfl, h0, h1, h2, h3⟩ := all2_4 h
  obtain ⟨x0, rfl, k0⟩ := typ_Ii64_3 (n := n + 1) h0
  obtain ⟨x1, rfl, k1⟩ := typ_Ii64_3 (n := n + 1) h1
  obtain ⟨x2, rfl, k2⟩ := typ_TBounds_42 (n := n + 0) h2
  obtain ⟨x3, rfl, k3⟩ := typ_TBounds_42 (n := n + 0) h3
  exact ⟨⟨x0, x1, x2, x3⟩, rfl, k0, k1, k2, k3⟩
def kLTRun (l : List TRun) : Prop := l.length ≤ 140737488355328 ∧ ∀ x ∈ l, kTRun (x)
theorem typ_LTRun_43 {n : Nat} {vs : List V} (h : Typ Try.prog (n + 4) 43 vs) : ∃ x : List TRun, vs = [(V.sl (recs eTRun (x)) (x).length)] ∧ kLTRun (x) := by
  unfold Typ at h
  simp only [Try.underlying43] at h
  obtain ⟨ls, rfl, h1, h2⟩ := h
  obtain ⟨l, h3, h4, h5⟩ := typ_list (enc := eTRun) (fun vs hv => typ_TRun_47 (n := n) hv) ls h1
  refine ⟨l, by rw [h3, h4], ?_, h5⟩
  have hb : Try.prog.bytesOf 47 = 48 := by kernel_rfl
  rw [hb, h4] at h2
  have : reachBytes = 140737488351232 := rfl
  omega
def kTVoyage (x : TVoyage) : Prop := kTBounds (x.Start) ∧ kLTRun (x.Runs) ∧ kIi64 (x.Length) ∧ kIi64 (x.Width)
theorem typ_TVoyage_45 {n : Nat} {vs : List V} (h : Typ Try.prog (n + 5) 45 vs) : ∃ x : TVoyage, vs = eTVoyage x ∧ kTVoyage x := by
  unfold Typ at h
  simp only [Try.underlying45] at h
  obtain ⟨ls, rfl, h⟩ := h
  obtain ⟨v0, v1, v2, v3, rfl, h0, h1, h2, h3⟩ := all2_4 h
  obtain ⟨x0, rfl, k0⟩ := typ_TBounds_42 (n := n + 2) h0
  obtain ⟨x1, rfl, k1⟩ := typ_LTRun_43 (n := n + 0) h1
  obtain ⟨x2, rfl, k2⟩ := typ_Ii64_3 (n := n + 3) h2
  obtain ⟨x3, rfl, k3⟩ := typ_Ii64_3 (n := n + 3) h3
  exact ⟨⟨x0, x1, x2, x3⟩, rfl, k0, k1, k2, k3⟩
def kLTVoyage (l : List TVoyage) : Prop := l.length ≤ 140737488355328 ∧ ∀ x ∈ l, kTVoyage (x)
theorem typ_LTVoyage_22 {n : Nat} {vs : List V} (h : Typ Try.prog (n + 6) 22 vs) : ∃ x : List TVoyage, vs = [(V.sl (recs eTVoyage (x)) (x).length)] ∧ kLTVoyage (x) := by
  unfold Typ at h
  simp only [Try.underlying22] at h
  obtain ⟨ls, rfl, h1, h2⟩ := h
  obtain ⟨l, h3, h4, h5⟩ := typ_list (enc := eTVoyage) (fun vs hv => typ_TVoyage_45 (n := n) hv) ls h1
  refine ⟨l, by rw [h3, h4], ?_, h5⟩
  have hb : Try.prog.bytesOf 45 = 56 := by kernel_rfl
  rw [hb, h4] at h2
  have : reachBytes = 140737488351232 := rfl
  omega
theorem typ_B_4 {n : Nat} {vs : List V} (h : Typ Try.prog (n + 1) 4 vs) : ∃ x : Bool, vs = [(V.v (.bool (x)))] ∧ True := by
  simp only [Typ, Try.underlying4] at h
  obtain ⟨i, rfl⟩ := h
  exact ⟨i, rfl, trivial⟩
def kTNarrow (x : TNarrow) : Prop := kIi64 (x.From) ∧ kIi64 (x.To) ∧ kIi64 (x.Width) ∧ True
theorem typ_TNarrow_36 {n : Nat} {vs : List V} (h : Typ Try.prog (n + 2) 36 vs) : ∃ x : TNarrow, vs = eTNarrow x ∧ kTNarrow x := by
  unfold Typ at h
  simp only [Try.underlying36] at h
  obtain ⟨ls, rfl, h⟩ := h
  obtain ⟨v0, v1, v2, v3, rfl, h0, h1, h2, h3⟩ := all2_4 h
  obtain ⟨x0, rfl, k0⟩ := typ_Ii64_3 (n := n + 0) h0
  obtain ⟨x1, rfl, k1⟩ := typ_Ii64_3 (n := n + 0) h1
  obtain ⟨x2, rfl, k2⟩ := typ_Ii64_3 (n := n + 0) h2
  obtain ⟨x3, rfl, k3⟩ := typ_B_4 (n := n + 0) h3
  exact ⟨⟨x0, x1, x2, x3⟩, rfl, k0, k1, k2, k3⟩
def kLTNarrow (l : List TNarrow) : Prop := l.length ≤ 140737488355328 ∧ ∀ x ∈ l, kTNarrow (x)
theorem typ_LTNarrow_23 {n : Nat} {vs : List V} (h : Typ Try.prog (n + 3) 23 vs) : ∃ x : List TNarrow, vs = [(V.sl (recs eTNarrow (x)) (x).length)] ∧ kLTNarrow (x) := by
  unfold Typ at h
  simp only [Try.underlying23] at h
  obtain ⟨ls, rfl, h1, h2⟩ := h
  obtain ⟨l, h3, h4, h5⟩ := typ_list (enc := eTNarrow) (fun vs hv => typ_TNarrow_36 (n := n) hv) ls h1
  refine ⟨l, by rw [h3, h4], ?_, h5⟩
  have hb : Try.prog.bytesOf 36 = 32 := by kernel_rfl
  rw [hb, h4] at h2
  have : reachBytes = 140737488351232 := rfl
  omega
def kTthalweglaw03_Traffic (x : Tthalweglaw03_Traffic) : Prop := kLTVoyage (x.Voyages) ∧ kLTNarrow (x.Narrows)
theorem typ_Tthalweglaw03_Traffic_25 {n : Nat} {vs : List V} (h : Typ Try.prog (n + 7) 25 vs) : ∃ x : Tthalweglaw03_Traffic, vs = eTthalweglaw03_Traffic x ∧ kTthalweglaw03_Traffic x := by
  unfold Typ at h
  simp only [Try.underlying25] at h
  obtain ⟨ls, rfl, h⟩ := h
  obtain ⟨v0, v1, rfl, h0, h1⟩ := all2_2 h
  obtain ⟨x0, rfl, k0⟩ := typ_LTVoyage_22 (n := n + 0) h0
  obtain ⟨x1, rfl, k1⟩ := typ_LTNarrow_23 (n := n + 3) h1
  exact ⟨⟨x0, x1⟩, rfl, k0, k1⟩
end Go.Ev
/- Tests that are decided by other tests. -/
namespace Go.Ev
theorem eqT_ne {α : Type} [BEq α] {a b : α} (h : (a == b) = true) : (a != b) = false := by rw [bne, h]; rfl
theorem eqF_ne {α : Type} [BEq α] {a b : α} (h : (a == b) = false) : (a != b) = true := by rw [bne, h]; rfl
theorem neT_eq {α : Type} [BEq α] {a b : α} (h : (a != b) = true) : (a == b) = false := by
  unfold bne at h; cases e : (a == b) with
  | true => rw [e] at h; cases h
  | false => rfl
theorem neF_eq {α : Type} [BEq α] {a b : α} (h : (a != b) = false) : (a == b) = true := by
  unfold bne at h; cases e : (a == b) with
  | true => rfl
  | false => rw [e] at h; cases h
end Go.Ev
/- Operations that only runs do: the capacity of nil, slices of nil, an own slice cut to nothing, append of make. -/
set_option linter.unusedVariables false
set_option linter.unusedSimpArgs false
namespace Go.Ev
open Go.RowKit
noncomputable section

def isNil : V → Bool
  | .v (.slice none 0 0) => true
  | _ => false
theorem isNil_eq {c : V} (h : isNil c = true) : c = .v (.slice none 0 0) := by
  unfold isNil at h
  split at h
  · rfl
  · cases h
def isZero : V → Bool
  | .v (.int .i64 (.ofNat 0)) => true
  | _ => false
theorem isZero_eq {c : V} (h : isZero c = true) : c = .v (.int .i64 0) := by
  unfold isZero at h
  split at h
  · rfl
  · cases h
def natOf : V → Option Nat
  | .v (.int .i64 (.ofNat n)) => some n
  | _ => none
theorem natOf_eq {c : V} {n : Nat} (h : natOf c = some n) : c = .v (.int .i64 (n : Int)) := by
  unfold natOf at h
  split at h
  · cases h; rfl
  · cases h
def oslOf : V → Option Nat
  | .osl b _ => some b
  | _ => none
theorem oslOf_eq {c : V} {b : Nat} (h : oslOf c = some b) : ∃ n, c = .osl b n := by
  unfold oslOf at h
  split at h
  · cases h; exact ⟨_, rfl⟩
  · cases h

section
variable (P : Program)
def opE (id : Nat) (ρ : Operand → V) : Op → Option RM
  | .call { callee := .builtin .cap, args, argTypes } => match args.toList, argTypes.toList with
    | [x], [t] => match isNil (ρ x), elemOf? P t with
      | true, some _ => some (.retF (.v (.int .i64 0)))
      | _, _ => none
    | _, _ => none
  | .call { callee := .builtin .append, args, argTypes } => match args.toList, argTypes.toList with
    | [s, x], [t, u] => match isNil (ρ s), natOf (ρ x), intOf? P u, elemOf? P t with
      | true, some n, some _, some e => match szOf P e, bytesOf P e, zeroOf P e with
        | some size, some bytes, some z => some (.dec (0 < n ∧ n ≤ maxLen ∧ n * bytes ≤ 140737488355328 ∧ 0 < size) (.put id (.row e size (List.replicate n z).flatten 0) (.ret (.osl id n))))
        | _, _, _ => none
      | _, _, _, _ => none
    | _, _ => none
  | .slice t x none (some y) none => match isZero (ρ y), elemOf? P t with
    | true, some e => match szOf P e with
      | some _ => match isNil (ρ x), oslOf (ρ x) with
        | true, _ => some (.retF (.v (.slice none 0 0)))
        | false, some b => some (.get b fun
          | .row e size _ 0 => .put b (.row e size [] 0) (.ret (.osl b 0))
          | _ => .fail)
        | _, _ => none
      | none => none
    | _, _ => none
  | _ => none

def opA (id : Nat) (ρ : Operand → V) (op : Op) : RM := match opE P id ρ op with
  | some r => r
  | none => opR P (fun _ => none) id ρ op
end

section
variable {P : Program}
theorem Rel.trunc {O : Nat → Prop} {w0 : World} {F0 : FZ} {M0 : MP} {D : List Deferred} {U : Nat → Prop} {F : FZ} {m : MP} {sz : Nat} {tm : TM} {st : ST} {a : Act} {w : World} (h : Rel O w0 F0 M0 D U F m sz tm st a w)
    {b size : Nat} {e : TypeId} {cs : List V} (hl : look st b = some (.row e size cs 0)) : Rel O w0 F0 M0 D U F m sz tm ((b, .row e size [] 0) :: st) a w := by
  have hal : ∀ b', aliveB ((b, .row e size [] 0) :: st) b' → aliveB st b' := by
    rintro b' ⟨y, hy, hy0⟩
    rw [look_cons] at hy
    split at hy
    · next e => subst e; exact ⟨_, hl, by simp⟩
    · exact ⟨y, hy, hy0⟩
  refine { h with hst := ?_, inj := fun b1 b2 g' c1 c2 a1 a2 => h.inj b1 b2 g' c1 c2 (hal _ a1) (hal _ a2), fresh := ?_, nst := h.nst.imp fun L hL => hL.less (fun b _ _ ha => hal b ha) fun b x hx => (by
    rw [look_cons] at hx
    split at hx
    · cases hx; exact .inl rfl
    · exact .inr hx) }
  · intro b' y hy
    rw [look_cons] at hy
    split at hy
    · next e =>
      subst e; cases hy
      rcases h.hst b _ hl with ⟨g, cap, cur, q1, q2, q3, q4, q5, q6, q7, q8, q9, q10⟩ | ⟨q1, q2, q3⟩
      · exact .inl ⟨g, cap, cur, q1, q2, q3, q4, q5, q6, trivial, q8, q9, Nat.zero_le _⟩
      · exact .inr ⟨q1, rfl, rfl⟩
    · exact h.hst b' y hy
  · intro b' hb'
    obtain ⟨e1, e2⟩ := h.fresh b' hb'
    refine ⟨?_, e2⟩
    rw [look_cons, if_neg (fun e => by subst e; rw [hl] at e1; cases e1)]
    exact e1

theorem opE_ok {o : Oper} {r : RM} {O : Nat → Prop} {w0 : World} {F0 : FZ} {M0 : MP} {D : List Deferred} {U : Nat → Prop} {F : FZ} {m : MP} {sz : Nat} {tm : TM} {st : ST} {a : Act} {w : World} {id : Nat} {K : V → ST → Prop}
    {next : Act → World → Prop} {Q : Exit → Act → World → Prop} (h : Rel O w0 F0 M0 D U F m sz tm st a w) (hU : U id) (hd : okDst sz o.dst = true) (he : opE P id (ev tm) o.op = some r) (hg : r.go st K)
    (hn : ∀ F' m' v st' a' w', Rel O w0 F0 M0 D (fun b => U b ∧ b ≠ id) F' m' sz (putT tm o.dst v) st' a' w' → K v st' → next a' w') : o.wpX P a w next Q := by
  unfold opE at he
  split at he
  · next args ts ho =>
    split at he
    · next x t hx ht =>
      split at he
      · next e hni he' =>
        cases he
        have hx' := h.ev x
        rw [isNil_eq hni] at hx'
        have hx' : a.eval x = .slice none 0 0 := hx'
        have hu : P.underlying t = some (.slice e) := by simp only [elemOf?] at he'; split at he' <;> simp_all
        have hargs : args = #[x] := by cases args; simp_all
        have htys : ts = #[t] := by cases ts; simp_all
        subst hargs htys
        refine done_pure h hd hn (c := .v (.int .i64 0)) (x := .int .i64 0) ?_ rfl hg
        rw [run_builtin ho]
        simp [builtin, Builtin.cap_, run_underlying hu, hx', goInt]
      · cases he
    · cases he
  · next args ts ho =>
    split at he
    · next s x t u hsx htu =>
      split at he
      · next n ku e hni hnx hiu he' =>
        split at he
        · next size bytes z hsz hby hz =>
          cases he
          have hargs : args = #[s, x] := by cases args; simp_all
          have htys : ts = #[t, u] := by cases ts; simp_all
          subst hargs htys
          have hs' := h.ev s
          rw [isNil_eq hni] at hs'
          have hs' : a.eval s = .slice none 0 0 := hs'
          have hx' := h.ev x
          rw [natOf_eq hnx] at hx'
          have hx' : a.eval x = .int .i64 (n : Int) := hx'
          have hu : P.underlying t = some (.slice e) := by simp only [elemOf?] at he'; split at he' <;> simp_all
          have hi : P.underlying u = some (.int ku) := by simp only [intOf?] at hiu; split at hiu <;> simp_all
          obtain ⟨⟨h0, hmax, hbig, hpos⟩, hg⟩ := hg
          obtain ⟨v, hrun, hzv, hone, it, hit, hitz, hvsz⟩ := zero_run (P := P) (w := w) hz
          have hits : it.size = size := by simpa [szOf, hit] using hsz
          have hitb : it.bytes = bytes := by simpa [bytesOf, hit] using hby
          have hr := Go.Lib.run_append_nil_zeros (P := P) w t u o.type e it v .i64 ku hu hi hit hitz n h0 (by omega) (by unfold maxLen at hmax; omega) (by rw [hitb]; omega)
          have hge := grownCap_ge w n 0 e
          have hcm := grownCap_le_maxLen w n 0 e hmax
          have hvs : v.cells.size = size := by rw [hvsz, hits]
          have hzc : ∀ k, (Builtin.zeroCells v.cells k).size = k * size := fun k => by rw [size_zeroCells, hvs]
          have hflat : (List.replicate n z).flatten.length = n * size := by
            rw [hzv, flat_get (z := v.cells.toList.map V.v) (zs := v.cells.toList) (by simp)]; simp [hvs]
          obtain ⟨hR, hm, hk⟩ := row_new2 h.drew hU (id := id) (e := e) (size := size) (n := grownCap w n 0 e) (cs := (List.replicate n z).flatten) (arr := Builtin.zeroCells v.cells n ++ Builtin.zeroCells v.cells (grownCap w n 0 e - n)) hpos (by
            rw [hflat, Array.toList_append, List.take_append_of_le_length (by rw [Array.length_toList, hzc]; exact Nat.le_refl _), List.take_of_length_le (by rw [Array.length_toList, hzc]; exact Nat.le_refl _), RCs_iff]
            refine ⟨by rw [hflat, Array.length_toList, hzc], fun i c y hc hy => ?_⟩
            have hi : i < n * size := by rw [← hflat]; exact (List.getElem?_eq_some_iff.1 hc).1
            have him : i % size < v.cells.size := by rw [hvs]; exact Nat.mod_lt _ hpos
            have key : ∀ (n i : Nat), i < n * size → (List.replicate n (v.cells.toList.map V.v)).flatten[i]? = some (V.v (v.cells[i % size]'(by rw [hvs]; exact Nat.mod_lt _ hpos))) := by
              intro n
              induction n with
              | zero => intro i hi; omega
              | succ n ih =>
                intro i hi
                rw [List.replicate_succ, List.flatten_cons]
                by_cases hlt : i < size
                · rw [List.getElem?_append_left (by simp; omega), List.getElem?_map]
                  simp [Nat.mod_eq_of_lt hlt, hvs, hlt]
                · rw [List.getElem?_append_right (by simp; omega)]
                  have e1 : i - (v.cells.toList.map V.v).length = i - size := by simp [hvs]
                  rw [e1, ih (i - size) (by rw [Nat.add_mul] at hi; omega)]
                  congr 3
                  exact (Nat.mod_eq_sub_mod (by omega)).symm
            rw [hzv, key n i hi] at hc
            cases hc
            have hy2 : v.cells[i % size]'him = y := by
              simp [Builtin.zeroCells, hvs, hi] at hy
              rw [← hy]
              simp [him]
            subst hy2
            exact ⟨rfl, fun _ => hone _ (by simp)⟩) (by
            rw [Array.size_append, hzc, hzc, ← Nat.add_mul]
            congr 1; omega) hcm
          refine fin_value (v := .slice (some ⟨w.heap.size, 0, none⟩) n (grownCap w n 0 e)) ?_ (hn _ _ _ _ _ _ (hR.put hd (c := .osl id n) (.inl ⟨w.heap.size, grownCap w n 0 e, by simp, hge, rfl⟩)) hg)
          rw [run_builtin ho]
          simp [builtin, hs', hx', hr]
        · cases he
      · cases he
    · cases he
  · next t x y ho =>
    split at he
    · next e hz he' =>
      have hu : P.underlying t = some (.slice e) := by simp only [elemOf?] at he'; split at he' <;> simp_all
      split at he
      · next size hsz =>
        have hy := h.ev y
        rw [isZero_eq hz] at hy
        have hy : a.eval y = .int .i64 0 := hy
        split at he
        · next hni =>
          cases he
          have hx' := h.ev x
          rw [isNil_eq hni] at hx'
          have hx' : a.eval x = .slice none 0 0 := hx'
          refine done_pure h hd hn (c := .v (.slice none 0 0)) (x := .slice none 0 0) ?_ rfl hg
          simp [execOp, ho, hx', Instr.sliceAt, Instr.slice, run_underlying hu, Instr.sliceBounds, Instr.sliceBound, asIntOf, sz_run hsz, hy]
        · next b hni hob =>
          cases he
          obtain ⟨n, hob⟩ := oslOf_eq hob
          have hx' := h.ev x
          rw [hob] at hx'
          simp only [RM.go] at hg
          cases hl : look st b with
          | none => simp [hl] at hg
          | some q =>
            rw [hl] at hg
            simp only at hg
            split at hg
            · next e2 size2 cs2 =>
              have hR := h.trunc hl
              rcases hx' with ⟨g, cap, hm, hnc, hx'⟩ | ⟨rfl, hx'⟩
              · refine fin_value (v := .slice (some ⟨g, 0, none⟩) 0 cap) ?_ (hn F m _ _ _ _ ((hR.weakU fun _ e => e.1).put hd (c := .osl b 0) (.inl ⟨g, cap, hm, Nat.zero_le _, rfl⟩)) hg)
                simp [execOp, ho, hx', Instr.sliceAt, Instr.slice, run_underlying hu, Instr.sliceBounds, Instr.sliceBound, asIntOf, sz_run hsz, hy, Addr.add_lit]
              · refine fin_value (v := .slice none 0 0) ?_ (hn F m _ _ _ _ ((hR.weakU fun _ e => e.1).put hd (c := .osl b 0) (.inr ⟨rfl, rfl⟩)) hg)
                simp [execOp, ho, hx', Instr.sliceAt, Instr.slice, run_underlying hu, Instr.sliceBounds, Instr.sliceBound, asIntOf, sz_run hsz, hy]
            · cases hg
        · cases he
      · cases he
    · cases he
  · cases he

theorem opA_ok {o : Oper} {O : Nat → Prop} {w0 : World} {F0 : FZ} {M0 : MP} {D : List Deferred} {U : Nat → Prop} {F : FZ} {m : MP} {sz : Nat} {tm : TM} {st : ST} {a : Act} {w : World} {id : Nat} {K : V → ST → Prop}
    {next : Act → World → Prop} {Q : Exit → Act → World → Prop} (h : Rel O w0 F0 M0 D U F m sz tm st a w) (hU : U id) (hd : okDst sz o.dst = true) (hg : (opA P id (ev tm) o.op).go st K)
    (hn : ∀ F' m' v st' a' w', Rel O w0 F0 M0 D (fun b => U b ∧ b ≠ id) F' m' sz (putT tm o.dst v) st' a' w' → K v st' → next a' w') : o.wpX P a w next Q := by
  unfold opA at hg
  split at hg
  · next r he => exact opE_ok h hU hd he hg hn
  · exact op_ok (C := fun _ => none) ctx_nil o h hU hd hg hn
end
end
end Go.Ev
/- Regions whose order is open, but for the last operation: it waits for all others, and may be any call. -/
set_option linter.unusedVariables false
set_option linter.unusedSimpArgs false
namespace Go.Ev
open Go.RowKit

section
variable {P : Program} {C : FuncId → Option Con} {sz : Nat} {ops : Array Oper} {nx : Nat}

/-- Each operation before M is waited for by a later one. -/
def CovM (ops : Array Oper) (M : Nat) : Prop := ∀ j, j < M → ∃ i o, ops[i]? = some o ∧ j < i ∧ ∃ e ∈ o.after, Region.binds .any e = true ∧ e.on = j
/-- What an operation that is done waited for is done. -/
def DCl (ops : Array Oper) (listed : Array Bool) : Prop := ∀ i o, ops[i]? = some o → listed.getD i true = true → ∀ e ∈ o.after, Region.binds .any e = true → listed.getD e.on true = true

/-- What is left to be done before the last operation. -/
structure LeftM (ops : Array Oper) (M : Nat) (listed : Array Bool) (l : List (Nat × Oper)) (fs : List FP) : Prop where
  len : l.length = fs.length
  mem : ∀ i o, (i, o) ∈ l → ops[i]? = some o ∧ i < M ∧ listed.getD i true = false
  all : ∀ i o, i < M → ops[i]? = some o → listed.getD i true = false → (i, o) ∈ l
  asc : l.Pairwise (fun p q => p.1 < q.1)
  free : ∀ (a b : Nat) (p q : Nat × Oper) (f g : FP), a < b → l[a]? = some p → l[b]? = some q → fs[a]? = some f → fs[b]? = some g → Free ops p q f g
  size : listed.size = ops.size
  lastF : listed.getD M true = false

theorem anyOrderL {M : Nat} (hM : ops.size = M + 1) (hcov : CovM ops M) (hC : CtxOK P C) {FF : Fence} (hW : Wide FF) (hahead : ∀ i o, ops[i]? = some o → ∀ e ∈ o.after, Region.binds .any e = true → e.on < i) {O : Nat → Prop} {w0 : World} {F0 : FZ} {M0 : MP} {D : List Deferred} {Q : Exit → Act → World → Prop} {tmE : TM} {stE : ST}
    (hlast : ∀ (listed : Array Bool) F m a w, listed.size = ops.size → Region.ready .any ops (listed.setIfInBounds M true) = [] → Rel O w0 F0 M0 D (fun b => nx + M ≤ b) F m sz tmE stE a w → wpOpIn FF 0 P ops Q M (wpAnyIn FF 0 P .any ops Q 0 (listed.setIfInBounds M true)) a w) :
    ∀ (n : Nat) (listed : Array Bool) (l : List (Nat × Oper)) (fs : List FP) (F : FZ) (m : MP) (tm : TM) (st : ST) (a : Act) (w : World), l.length = n → LeftM ops M listed l fs → DCl ops listed →
      Rel O w0 F0 M0 D (fun b => nx ≤ b ∧ (b < nx + ops.size → listed.getD (b - nx) true = false)) F m sz tm st a w → TrD P C sz ops nx l tm st fs → Eqv (endTm l tm fs) tmE → Eqv (endSt fs st) stE →
      wpAnyIn FF 0 P .any ops Q (n + 1) listed a w
  | 0, listed, l, fs, F, m, tm, st, a, w, hn, hL, hdc, h, ht, e1, e2 => by
    obtain rfl : l = [] := List.eq_nil_of_length_eq_zero hn
    obtain rfl : fs = [] := List.eq_nil_of_length_eq_zero (by rw [← hL.len]; rfl)
    have hall : ∀ j, j < M → listed.getD j true = true := by
      intro j hj
      cases hc : listed.getD j true with
      | true => rfl
      | false => cases hL.all j ops[j] hj (by simp) hc
    have hsz := hL.size
    refine ⟨fun hr => ?_, fun i hi => ?_⟩
    · exfalso
      have : M ∈ Region.ready .any ops listed := by
        refine mem_ready.2 ⟨hL.lastF, ops[M], by simp, fun e he hb => ?_⟩
        have hlt := hahead M ops[M] (by simp) e he hb
        rw [getD_of_lt (by omega) false true]
        exact hall _ hlt
      rw [hr] at this
      cases this
    · obtain ⟨hlist, o, ho, hpre⟩ := mem_ready.1 hi
      have hi' : i < ops.size := (Array.getElem?_eq_some_iff.1 ho).1
      have hiM : i = M := by
        rcases Nat.lt_or_ge i M with h1 | h1
        · rw [hall i h1] at hlist; cases hlist
        · omega
      subst hiM
      refine hlast listed F m a w hsz ?_ (((h.congrT fun j => (e1 j).symm).congr fun j => (e2 j).symm).weakU fun b hb => ⟨by omega, fun hb2 => by
        rw [show b - nx = i by omega]; exact hL.lastF⟩)
      cases hr : Region.ready .any ops (listed.setIfInBounds i true) with
      | nil => rfl
      | cons k rs =>
        exfalso
        obtain ⟨h1, o', ho', _⟩ := mem_ready.1 (show k ∈ Region.ready .any ops (listed.setIfInBounds i true) by rw [hr]; simp)
        have hk : k < ops.size := (Array.getElem?_eq_some_iff.1 ho').1
        by_cases hki : k = i
        · subst hki
          simp [Array.getD_eq_getD_getElem?, hsz, hk] at h1
        · rw [Array.getD_eq_getD_getElem?, Array.getElem?_setIfInBounds_ne (fun e => hki e.symm), ← Array.getD_eq_getD_getElem?, hall k (by omega)] at h1
          cases h1
  | n + 1, listed, l, fs, F, m, tm, st, a, w, hn, hL, hdc, h, ht, e1, e2 => by
    refine ⟨fun hr => ?_, fun i hi => ?_⟩
    · -- some operation is ready
      exfalso
      match l, hn with
      | (i, o) :: l, _ =>
        obtain ⟨ho, hiM, hlist⟩ := hL.mem i o (by simp)
        have : i ∈ Region.ready .any ops listed := by
          refine mem_ready.2 ⟨hlist, o, ho, fun e he hb => ?_⟩
          have hlt := hahead i o ho e he hb
          have hi : i < ops.size := (Array.getElem?_eq_some_iff.1 ho).1
          have hel : e.on < listed.size := by rw [hL.size]; omega
          rw [getD_of_lt hel false true]
          cases hc : listed.getD e.on true with
          | true => rfl
          | false =>
            have hm := hL.all e.on ops[e.on] (by omega) (by simp) hc
            have hasc := hL.asc
            simp only [List.pairwise_cons] at hasc
            rcases List.mem_cons.1 hm with hm | hm
            · have := congrArg Prod.fst hm; simp only at this; omega
            · have := hasc.1 _ hm; simp only at this; omega
        rw [hr] at this
        cases this
    · obtain ⟨hlist, o, ho, hpre⟩ := mem_ready.1 hi
      have hi0 : i < ops.size := (Array.getElem?_eq_some_iff.1 ho).1
      have hiM : i < M := by
        rcases Nat.lt_or_ge i M with h1 | h1
        · exact h1
        · exfalso
          obtain rfl : i = M := by omega
          have key : ∀ d j, j < i → i - j ≤ d → listed.getD j true = true := by
            intro d
            induction d with
            | zero => intro j h1 h2; omega
            | succ d ih =>
              intro j h1 h2
              obtain ⟨q, oq, hq, hjq, e, he, hb, rfl⟩ := hcov j h1
              have hq' : q < ops.size := (Array.getElem?_eq_some_iff.1 hq).1
              have hes : e.on < listed.size := by rw [hL.size]; omega
              by_cases hqi : q = i
              · subst hqi
                rw [ho] at hq; cases hq
                rw [getD_of_lt hes true false]
                exact hpre e he hb
              · exact hdc q oq hq (ih q (by omega) (by omega)) e he hb
          match l, hn, hL with
          | (j, oj) :: l, _, hL =>
            obtain ⟨_, hjM, hj⟩ := hL.mem j oj (by simp)
            rw [key i j hjM (by omega)] at hj
            cases hj
      have hmem := hL.all i o hiM ho hlist
      obtain ⟨l1, l2, rfl⟩ := split_at hmem
      obtain ⟨f1, f, f2, rfl, hl1, hl2⟩ := split_same hL.len
      have hi' : i < ops.size := (Array.getElem?_eq_some_iff.1 ho).1
      obtain ⟨q1, q2, q3⟩ := TrD_first hl1.symm ht (by
        intro k p g hp hg
        have hk : k < l1.length := (List.getElem?_eq_some_iff.1 hp).1
        have hfree := hL.free k l1.length p (i, o) g f hk (by rw [List.getElem?_append_left hk]; exact hp) (by simp) (by rw [List.getElem?_append_left (by omega)]; exact hg) (by rw [← hl1]; simp)
        rcases hfree with ⟨e, he, hb, hon⟩ | hind
        · exfalso
          obtain ⟨j, oj⟩ := p
          obtain ⟨_, _, hj⟩ := hL.mem j oj (List.mem_append.2 (.inl (List.mem_of_getElem? hp)))
          have := hpre e he hb
          simp only at hon
          subst hon
          have hjs : e.on < listed.size := by
            rw [hL.size]
            have := hahead i o ho e he hb
            omega
          rw [getD_of_lt hjs false true, hj] at this
          cases this
        · exact hind)
      obtain ⟨rs, us, v⟩ := f
      obtain ⟨s1, s2⟩ := q1
      obtain ⟨hd, hs⟩ := s1
      -- what is left behind this step
      have hL2 : LeftM ops M (listed.setIfInBounds i true) (l1 ++ l2) (f1 ++ f2) := by
        have hne : ∀ j o', (j, o') ∈ l1 ++ l2 → j ≠ i := by
          intro j o' hm
          have hasc := hL.asc
          rw [List.pairwise_append] at hasc
          obtain ⟨_, a2, a3⟩ := hasc
          simp only [List.pairwise_cons] at a2
          rcases List.mem_append.1 hm with hm | hm
          · have := a3 _ hm (i, o) (by simp); simp only at this; omega
          · have := a2.1 _ hm; simp only at this; omega
        refine { len := by simp [hl1, hl2], mem := ?_, all := ?_, asc := ?_, free := ?_, size := by simp [hL.size], lastF := by rw [Array.getD_eq_getD_getElem?, Array.getElem?_setIfInBounds_ne (by omega), ← Array.getD_eq_getD_getElem?]; exact hL.lastF }
        · intro j o' hm
          obtain ⟨h1, h1', h2⟩ := hL.mem j o' (by rcases List.mem_append.1 hm with hm | hm <;> simp [hm])
          refine ⟨h1, h1', ?_⟩
          rw [Array.getD_eq_getD_getElem?, Array.getElem?_setIfInBounds_ne (fun e => hne j o' hm e.symm), ← Array.getD_eq_getD_getElem?]
          exact h2
        · intro j o' hjM hj hl
          have hji : j ≠ i := by
            rintro rfl
            simp [Array.getD_eq_getD_getElem?, hL.size, hi'] at hl
          rw [Array.getD_eq_getD_getElem?, Array.getElem?_setIfInBounds_ne (fun e => hji e.symm), ← Array.getD_eq_getD_getElem?] at hl
          have := hL.all j o' hjM hj hl
          rcases List.mem_append.1 this with hm | hm
          · exact List.mem_append.2 (.inl hm)
          · cases hm with
            | head => exact absurd rfl hji
            | tail _ hm => exact List.mem_append.2 (.inr hm)
        · have hasc := hL.asc
          exact hasc.sublist (List.Sublist.append_left (List.sublist_cons_self _ _) _)
        · intro x y p q f' g hxy hp hq hf hg
          -- positions with the step taken out
          have up : ∀ {α : Type} {A B : List α} {c : α} {k : Nat} {z : α}, (A ++ B)[k]? = some z → (A ++ c :: B)[if k < A.length then k else k + 1]? = some z := by
            intro α A B c k z hz
            by_cases hk : k < A.length
            · rw [if_pos hk, List.getElem?_append_left hk]
              rwa [List.getElem?_append_left hk] at hz
            · rw [if_neg hk, List.getElem?_append_right (by omega)]
              rw [List.getElem?_append_right (by omega)] at hz
              have : k + 1 - A.length = k - A.length + 1 := by omega
              rw [this, List.getElem?_cons_succ]
              exact hz
          have hp' := up (c := (i, o)) hp
          have hq' := up (c := (i, o)) hq
          have hf' := up (c := ((rs, us, v) : FP)) hf
          have hg' := up (c := ((rs, us, v) : FP)) hg
          rw [hl1] at hf' hg'
          refine hL.free _ _ p q f' g ?_ hp' hq' hf' hg'
          split <;> split <;> omega
      have hdc2 : DCl ops (listed.setIfInBounds i true) := by
        intro j oj hj hl e he hb
        have hjs : j < ops.size := (Array.getElem?_eq_some_iff.1 hj).1
        have up : listed.getD e.on true = true → (listed.setIfInBounds i true).getD e.on true = true := by
          intro hx
          by_cases hei : e.on = i
          · rw [hei]; simp [Array.getD_eq_getD_getElem?, hL.size, hi0]
          · rw [Array.getD_eq_getD_getElem?, Array.getElem?_setIfInBounds_ne (fun q => hei q.symm), ← Array.getD_eq_getD_getElem?]; exact hx
        by_cases hji : j = i
        · subst hji
          rw [ho] at hj; cases hj
          have hlt := hahead j o ho e he hb
          refine up ?_
          rw [getD_of_lt (by rw [hL.size]; omega) true false]
          exact hpre e he hb
        · rw [Array.getD_eq_getD_getElem?, Array.getElem?_setIfInBounds_ne (fun q => hji q.symm), ← Array.getD_eq_getD_getElem?] at hl
          exact up (hdc j oj hj hl e he hb)
      have hU : ∀ b, (nx ≤ b ∧ (b < nx + ops.size → (listed.setIfInBounds i true).getD (b - nx) true = false)) → (nx ≤ b ∧ (b < nx + ops.size → listed.getD (b - nx) true = false)) ∧ b ≠ nx + i := by
        rintro b ⟨h1, h2⟩
        have hne : b ≠ nx + i := by
          rintro rfl
          have := h2 (by omega)
          rw [show nx + i - nx = i by omega] at this
          simp [Array.getD_eq_getD_getElem?, hL.size, hi'] at this
        refine ⟨⟨h1, fun hb => ?_⟩, hne⟩
        have := h2 hb
        rw [Array.getD_eq_getD_getElem?, Array.getElem?_setIfInBounds_ne (by omega), ← Array.getD_eq_getD_getElem?] at this
        exact this
      have next : ∀ F' m' a' w', Rel O w0 F0 M0 D (fun b => (nx ≤ b ∧ (b < nx + ops.size → listed.getD (b - nx) true = false)) ∧ b ≠ nx + i) F' m' sz (putT tm o.dst v) (us ++ st) a' w' →
          wpAnyIn FF 0 P .any ops Q (n + 1) (listed.setIfInBounds i true) a' w' := by
        intro F' m' a' w' hR
        exact anyOrderL hM hcov hC hW hahead hlast n _ (l1 ++ l2) (f1 ++ f2) F' m' _ _ a' w' (by simp at hn ⊢; omega) hL2 hdc2 (hR.weakU hU) s2 (fun j => (q2 j).trans (e1 j)) (fun j => (q3 j).trans (e2 j))
      have run : (opR P C (nx + i) (ev tm) o.op).ex (look st) rs us v → o.wpIn FF 0 P a w (wpAnyIn FF 0 P .any ops Q (n + 1) (listed.setIfInBounds i true)) Q := by
        intro hx
        refine op_ok hC o h (id := nx + i) ⟨by omega, fun _ => by rw [show nx + i - nx = i by omega]; exact hlist⟩ hd
          (K := fun v' st' => v' = v ∧ st' = us ++ st) (RM.ex_go _ _ _ _ _ _ hx ⟨rfl, rfl⟩) ?_ FF hW
        rintro F' m' v' st' a' w' hR ⟨rfl, rfl⟩
        exact next F' m' a' w' hR
      unfold wpOpIn
      simp only [ho]
      cases hg : o.guard with
      | none =>
        have hw : Region.wanted o (yielded ops a.tmps) = true := by simp [Region.wanted, hg]
        rw [if_pos hw]
        rw [hg] at hs
        exact run hs
      | some jw =>
        obtain ⟨j, want⟩ := jw
        rw [hg] at hs
        obtain ⟨d, d1, ⟨b, d2, d3⟩ | ⟨⟨arr, d2⟩, rfl, rfl, rfl⟩⟩ := hs
        rotate_left
        · have hy := yielded_not h d1 d2
          have hw : ¬ Region.wanted o (yielded ops a.tmps) = true := by simp [Region.wanted, hg, hy]
          rw [if_neg hw]
          exact ⟨fun f _ => hW.fn f, next F m _ w ((h.weakU fun b hb => hb.1).put hd (c := vU) rfl)⟩
        have hy := yielded_of h d1 d2
        by_cases hbw : b = want
        · have hw : Region.wanted o (yielded ops a.tmps) = true := by simp [Region.wanted, hg, hy, hbw]
          rw [if_pos hw]
          rw [if_pos hbw] at d3
          exact run d3
        · have hw : ¬ Region.wanted o (yielded ops a.tmps) = true := by simp [Region.wanted, hg, hy, hbw]
          rw [if_neg hw]
          rw [if_neg hbw] at d3
          obtain ⟨rfl, rfl, rfl⟩ := d3
          exact ⟨fun f _ => hW.fn f, next F m _ w ((h.weakU fun b hb => hb.1).put hd (c := vU) rfl)⟩


def covB (ops : Array Oper) (M : Nat) : Bool := (List.range M).all fun j => (enumL 0 ops.toList).any fun p => Nat.blt j p.1 && p.2.after.any fun e => Region.binds .any e && Nat.beq e.on j
theorem covB_eq {M : Nat} (h : covB ops M = true) : CovM ops M := by
  intro j hj
  have := List.all_eq_true.1 h j (List.mem_range.2 hj)
  obtain ⟨⟨i, o⟩, hm, hp⟩ := List.any_eq_true.1 this
  simp only [Bool.and_eq_true] at hp
  obtain ⟨h1, h2⟩ := hp
  obtain ⟨_, h3⟩ := enumL_mem.1 hm
  rw [Array.any_eq_true'] at h2
  obtain ⟨e, he, h4⟩ := h2
  simp only [Bool.and_eq_true] at h4
  exact ⟨i, o, by simpa using h3, of_eq_true ((Nat.blt_eq (x := j) (y := i)).symm.trans (eq_true h1)), e, he, h4.1, Nat.eq_of_beq_eq_true h4.2⟩

/-- A REGION WHOSE ORDER IS OPEN, BUT FOR ITS LAST OPERATION. -/
theorem evOpsL_sound {M : Nat} (hM : ops.size = M + 1) (hcov : covB ops M = true) (hC : CtxOK P C) {FF : Fence} (hW : Wide FF) (hm : P.follows .mixedOrders = true) (hah : aheadB ops.toList = true) {O : Nat → Prop} {w0 : World} {F0 : FZ} {M0 : MP} {D : List Deferred} {Q : Exit → Act → World → Prop} {K : TM → ST → Prop} {id : Nat}
    {F : FZ} {m : MP} {tm : TM} {st : ST} {a : Act} {w : World} (h : Rel O w0 F0 M0 D (fun b => nx ≤ b) F m sz tm st a w) (hg : evOpsD P C sz ops nx (ops.toList.take M) 0 tm st [] K)
    (hn : ∀ F' m' tm' st' a' w' (next : Act → World → Prop), Rel O w0 F0 M0 D (fun b => nx + M ≤ b) F' m' sz tm' st' a' w' → K tm' st' → (∀ a1 w1, Q .normal a1 w1 → next a1 w1) → wpOpIn FF 0 P ops Q M next a' w') : (Code.region id ops true).wpIn FF 0 P Q a w := by
  obtain ⟨fs, q1, q2, q3, q4, _⟩ := evOpsD_tr (ops.toList.take M) 0 tm st [] hg
  have hlen : (ops.toList.take M).length = M := by simp; omega
  refine wpIn_region_any hm ?_
  rw [hM]
  refine anyOrderL hM (covB_eq hcov) hC hW ?_ (fun listed F' m' a' w' hs hr hR => hn F' m' _ _ a' w' _ hR q3 fun a1 w1 hq => ⟨hr, hq⟩) M _ (enumL 0 (ops.toList.take M)) fs F m tm st a _ (by rw [enumL_length, hlen]) ?_ ?_ ?_ q2 (fun _ => rfl) (fun _ => rfl)
  · intro i o ho e he hb
    have := List.all_eq_true.1 hah (i, o) (enumL_mem.2 ⟨by omega, by simpa using ho⟩)
    simp only [Array.all_eq_true_iff_forall_mem] at this
    have := this e he
    simpa [hb] using this
  · refine { len := by rw [enumL_length, q1], mem := ?_, all := ?_, asc := enumL_asc _ _, free := q4, size := by simp [hM], lastF := by simp [Array.getD_eq_getD_getElem?] }
    · intro i o hm
      obtain ⟨_, h2⟩ := enumL_mem.1 hm
      rw [Nat.sub_zero, List.getElem?_take] at h2
      split at h2
      · next hi =>
        exact ⟨by simpa using h2, hi, by simp [Array.getD_eq_getD_getElem?, show i < M + 1 by omega]⟩
      · cases h2
    · intro i o hi ho _
      exact enumL_mem.2 ⟨by omega, by rw [Nat.sub_zero, List.getElem?_take, if_pos hi]; simpa using ho⟩
  · intro i o ho hl
    have hi : i < ops.size := (Array.getElem?_eq_some_iff.1 ho).1
    simp [Array.getD_eq_getD_getElem?, show i < M + 1 by omega] at hl
  · refine Rel.drew (h.weakU fun b hb => hb.1)
end
end Go.Ev
/- The evaluator, run: a program over values, with boxes; calls are followed, ranges over functions too. -/
set_option linter.unusedVariables false
namespace Go.Ev
open Go.RowKit
noncomputable section

def RM.x : RM → ST → Option (V × ST)
  | .fail, _ => none
  | .ret v, st => some (v, st)
  | .req _ _, _ => none
  | @RM.dec p k d, st => match d with
    | .isTrue _ => k.x st
    | .isFalse _ => none
  | .exi _ _ _, _ => none
  | .get b k, st => match look st b with
    | some y => (k y).x st
    | none => none
  | .put b y k, st => k.x ((b, y) :: st)

def RM.xT : RM → ST → List Nat → List Nat → Option (V × ST × List Nat × List Nat)
  | .fail, _, _, _ => none
  | .ret v, st, rs, ws => some (v, st, rs, ws)
  | .req _ _, _, _, _ => none
  | @RM.dec p k d, st, rs, ws => match d with
    | .isTrue _ => k.xT st rs ws
    | .isFalse _ => none
  | .exi _ _ _, _, _, _ => none
  | .get b k, st, rs, ws => match look st b with
    | some y => (k y).xT st (b :: rs) ws
    | none => none
  | .put b y k, st, rs, ws => k.xT ((b, y) :: st) rs (b :: ws)

theorem RM.x_go {K : V → ST → Prop} : ∀ (r : RM) (st : ST) (v : V) (st' : ST), r.x st = some (v, st') → K v st' → r.go st K
  | .fail, _, _, _, h, _ => by cases h
  | .ret _, _, _, _, h, hk => by cases h; exact hk
  | .req _ _, _, _, _, h, _ => by cases h
  | @RM.dec p k d, st, v, st', h, hk => by
    cases d with
    | isTrue hp => exact ⟨hp, x_go k st v st' h hk⟩
    | isFalse _ => cases h
  | .exi _ _ _, _, _, _, h, _ => by cases h
  | .get b k, st, v, st', h, hk => by
    simp only [RM.x] at h
    simp only [RM.go]
    split at h
    · next y hy => simp only [hy]; exact x_go (k y) st v st' h hk
    · cases h
  | .put b y k, st, v, st', h, hk => x_go k _ v st' h hk

/-! ### The same values, reckoned out -/
section
variable {β : Type}
def kN (n : Nat) (k : Nat → β) : β := match n with
  | 0 => k 0
  | m + 1 => k (Nat.succ m)
def kI (n : Int) (k : Int → β) : β := match n with
  | .ofNat m => kN m fun m => k (.ofNat m)
  | .negSucc m => kN m fun m => k (.negSucc m)
def kB (b : Bool) (k : Bool → β) : β := match b with
  | true => k true
  | false => k false
/-- The head of a value, and its number. -/
def kV0 (c : V) (k : V → β) : β := match c with
  | .top => k .top
  | .v (.int j n) => kI n fun n => k (.v (.int j n))
  | .v (.bool b) => kB b fun b => k (.v (.bool b))
  | .v x => k (.v x)
  | .agg cs => k (.agg cs)
  | .tup cs => k (.tup cs)
  | .sl cs n => k (.sl cs n)
  | .fptr cs => k (.fptr cs)
  | .fn g caps => k (.fn g caps)
  | .box b off => kN b fun b => kN off fun off => k (.box b off)
  | .osl b n => kN b fun b => kN n fun n => k (.osl b n)
  | .yld b => kN b fun b => k (.yld b)
  | .ag cs => k (.ag cs)
def kL : List V → (List V → β) → β
  | [], k => k []
  | c :: cs, k => kV0 c fun c => kL cs fun cs => k (c :: cs)
/-- A value and its cells. -/
def kV (c : V) (k : V → β) : β := match c with
  | .agg cs => kL cs fun cs => k (.agg cs)
  | .tup cs => kL cs fun cs => k (.tup cs)
  | .sl cs n => kL cs fun cs => kN n fun n => k (.sl cs n)
  | .fptr cs => kL cs fun cs => k (.fptr cs)
  | .fn g caps => kL caps fun caps => k (.fn g caps)
  | c => kV0 c k
def kS (st : ST) (k : ST → β) : β := match st with
  | (b, .var cs f) :: st => kL cs fun cs => k ((b, .var cs f) :: st)
  | (b, .row e size cs p) :: st => kL cs fun cs => kN p fun p => k ((b, .row e size cs p) :: st)
  | st => k st

theorem kN_eq (n : Nat) (k : Nat → β) : kN n k = k n := by cases n <;> rfl
theorem kI_eq (n : Int) (k : Int → β) : kI n k = k n := by cases n <;> simp only [kI, kN_eq]
theorem kB_eq (b : Bool) (k : Bool → β) : kB b k = k b := by cases b <;> rfl
theorem kV0_eq (c : V) (k : V → β) : kV0 c k = k c := by
  unfold kV0
  split <;> simp only [kN_eq, kI_eq, kB_eq]
theorem kL_eq : ∀ (cs : List V) (k : List V → β), kL cs k = k cs
  | [], k => rfl
  | c :: cs, k => by simp only [kL, kV0_eq, kL_eq cs]
theorem kV_eq (c : V) (k : V → β) : kV c k = k c := by
  unfold kV
  split <;> simp only [kN_eq, kL_eq, kV0_eq]
theorem kS_eq (st : ST) (k : ST → β) : kS st k = k st := by
  unfold kS
  split <;> simp only [kN_eq, kL_eq]
end

/-- A call: what is called, its arguments, the boxes, the first new number. -/
abbrev XH := V → List V → ST → Nat → Option (V × ST × Nat)

def want (all : List Oper) (tm : TM) : Option (Nat × Bool) → Option Bool
  | none => some true
  | some (j, w) => match (all[j]?).bind (·.dst) with
    | none => none
    | some d => match (look tm d).getD .top with
      | .v (.bool b) => some (b == w)
      | .v (.tuple _) => some false
      | _ => none

/-- The state of an activation: its slots, its marks, the boxes, the first new number. -/
structure XS where
  tm : TM
  ds : List Nat
  st : ST
  nx : Nat
  b0 : Nat

/-- Is a number on a list? -/
def memN (l : List Nat) (j : Nat) : Bool := List.rec (motive := fun _ => Bool) false (fun b _ ih => Bool.rec (motive := fun _ => Bool) ih true (Nat.beq b j)) l

def tidyT : Nat → TM → TM
  | 0, _ => []
  | n + 1, tm => match look tm n with
    | some v => kV0 v fun v => (n, v) :: tidyT n tm
    | none => tidyT n tm
/-- The boxes each once, as far as the activation's own. -/
def tidyS (b0 : Nat) : List Nat → ST → ST
  | _, [] => []
  | seen, (b, x) :: st => match Nat.beq b b0 with
    | true => (b, x) :: st
    | false => match memN seen b with
      | true => tidyS b0 seen st
      | false => (b, x) :: tidyS b0 (b :: seen) st
def tidy (sz : Nat) (s : XS) : XS := ⟨tidyT sz s.tm, s.ds, tidyS s.b0 [] s.st, s.nx, s.b0⟩

/-- The boxes that a value, a box leads to. -/
def refs1 : V → List Nat
  | .box b _ => [b]
  | .osl b _ => [b]
  | .yld b => [b]
  | _ => []
def refs : V → List Nat
  | .fn _ caps => caps.flatMap refs1
  | c => refs1 c
def refsX : Bx → List Nat
  | .var cs _ => cs.flatMap refs
  | .loop r => r.tm.flatMap fun p => refs p.2
  | _ => []
def front (b0 : Nat) : ST → ST
  | [] => []
  | (b, x) :: st => match Nat.beq b b0 with
    | true => []
    | false => (b, x) :: front b0 st
def clo (fr : ST) : Nat → List Nat → List Nat → List Nat
  | 0, _, kept => kept
  | _ + 1, [], kept => kept
  | n + 1, b :: work, kept => match memN kept b with
    | true => clo fr n work kept
    | false => match look fr b with
      | some x => clo fr n (refsX x ++ work) (b :: kept)
      | none => clo fr n work kept
def sieve (p : Nat → Bool) (st : ST) : ST := List.rec (motive := fun _ => ST) [] (fun e _ ih => Bool.rec (motive := fun _ => ST) ih (e :: ih) (p e.1)) st
/-- Boxes of an activation that is over are given up, but for those that it leaves behind. -/
def sweep (top : Nat) (r : V) (st : ST) : ST :=
  let fr := front top st
  let kept := clo fr 1000 (refs r ++ fr.flatMap fun e => match Nat.blt e.1 top with | true => refsX e.2 | false => []) []
  sieve (fun b => Bool.rec (motive := fun _ => Bool) (memN kept b) true (Nat.blt b top)) st

def xloop (f : XS → Option (AX × XS)) (sz : Nat) : Nat → XS → Option (AX × XS)
  | 0, _ => none
  | n + 1, s => match f (tidy sz s) with
    | some (.normal, s') => xloop f sz n s'
    | some (.exit i, s') => some (.exit i, s')
    | some (.ret, s') => some (.ret, s')
    | none => none

section
variable (P : Program) (H : XH) (X : FuncId → Option (List V → Option V))

def xop (top : Nat) (tm : TM) (st : ST) : Op → Option (V × ST × Nat)
  | .call { callee := .value f, args, .. } => H (ev tm f) (args.toList.map (ev tm)) st top
  | .move x => some (ev tm x, st, top)
  | .assign x => some (ev tm x, st, top)
  | op => match (opA P top (ev tm) op).x st with
    | some (v, st') => kV v fun v => kS st' fun st' => kN (top + 1) fun top' => some (v, st', top')
    | none => none

def xops (sz : Nat) (all : List Oper) : List Oper → Nat → TM → ST → Option (TM × ST × Nat)
  | [], top, tm, st => some (tm, st, top)
  | o :: os, top, tm, st => match okDst sz o.dst with
    | false => none
    | true => match want all tm o.guard with
      | none => none
      | some false => xops sz all os top (putT tm o.dst vU) st
      | some true => match xop P H top tm st o.op with
        | none => none
        | some (v, st', top') => xops sz all os top' (putT tm o.dst v) st'

def xopT (id : Nat) (tm : TM) : Op → RM
  | .call { callee := .value f, args, .. } => match ev tm f with
    | .fn g caps => match X g with
      | some f => fzs (args.toList.map (ev tm) ++ caps) fun avs => match f avs with
        | some r => .retF r
        | none => .fail
      | none => .fail
    | _ => .fail
  | op => opR P (fun _ => none) id (ev tm) op

def xopsD (sz : Nat) (ops : Array Oper) (nx : Nat) : List Oper → Nat → TM → ST → List (Nat × Oper × List Nat × List Nat) → Option (TM × ST)
  | [], _, tm, st, _ => some (tm, st)
  | o :: os, i, tm, st, prev => match okDst sz o.dst with
    | false => none
    | true => match want ops.toList tm o.guard with
      | none => none
      | some true => match (xopT P X (nx + i) tm o.op).xT st [] [] with
        | none => none
        | some (v, st', rs, ws) => match indepB ops o rs ws prev with
          | false => none
          | true => xopsD sz ops nx os (i + 1) (putT tm o.dst v) st' ((i, o, rs, ws) :: prev)
      | some false => match indepB ops o [] [] prev with
        | false => none
        | true => xopsD sz ops nx os (i + 1) (putT tm o.dst vU) st ((i, o, [], []) :: prev)

/-- A region whose order is open, but for its last operation. -/
def xlast (sz : Nat) (ops : Array Oper) (s : XS) : Option (AX × XS) := match ops.size with
  | 0 => none
  | M + 1 => match covB ops M with
    | false => none
    | true => match ops.toList[M]? with
      | none => none
      | some o => match o.guard with
        | some _ => none
        | none => match okDst sz o.dst with
          | false => none
          | true => match xopsD P X sz ops s.nx (ops.toList.take M) 0 s.tm s.st [] with
            | none => none
            | some (tm, st) => kN (s.nx + M) fun top => match xop P H top tm st o.op with
              | some (v, st', top') => some (.normal, ⟨putT tm o.dst v, s.ds, st', top', s.b0⟩)
              | none => none

/-- A range over a function is begun: its record; outside a round a mark, too. -/
def xenter (rd : Option Nat) (r : Bx) (s : XS) : Option XS := match rd with
  | none => some ⟨s.tm, (s.nx + 1) :: s.ds, (s.nx, r) :: (s.nx + 1, .mark true) :: s.st, s.nx + 2, s.b0⟩
  | some b => match look s.st b with
    | some (.loop _) => some ⟨s.tm, s.ds, (s.nx, r) :: s.st, s.nx + 1, s.b0⟩
    | _ => none

def isBusy : LoopState → Bool
  | .busy => true
  | _ => false
def isReady : LoopState → Bool
  | .ready => true
  | _ => false

/-- rd: in a round of this range over a function. -/
def xcode (fuel sz : Nat) (rd : Option Nat) : Code → XS → Option (AX × XS)
  | .skip, s => some (.normal, s)
  | .region _ ops false, s => match xops P H sz ops.toList ops.toList s.nx s.tm s.st with
    | some (tm, st, nx) => some (.normal, ⟨tm, s.ds, st, nx, s.b0⟩)
    | none => none
  | .region _ ops true, s => match aheadB ops.toList with
    | false => none
    | true => match xopsD P X sz ops s.nx ops.toList 0 s.tm s.st [] with
      | some (tm, st) => kN (s.nx + ops.size) fun nx => some (.normal, ⟨tm, s.ds, st, nx, s.b0⟩)
      | none => xlast P H X sz ops s
  | .seq a b, s => match xcode fuel sz rd a s with
    | some (.normal, s') => xcode fuel sz rd b s'
    | some (.exit i, s') => some (.exit i, s')
    | some (.ret, s') => some (.ret, s')
    | none => none
  | .cond c x y, s => match ev s.tm c with
    | .v (.bool true) => xcode fuel sz rd x s
    | .v (.bool false) => xcode fuel sz rd y s
    | _ => none
  | .block i c, s => match xcode fuel sz rd c s with
    | some (.exit j, s') => match Nat.beq j i with
      | true => some (.normal, s')
      | false => some (.exit j, s')
    | some (.normal, s') => some (.normal, s')
    | some (.ret, s') => some (.ret, s')
    | none => none
  | .loop c, s => xloop (fun s => xcode fuel sz rd c s) sz fuel s
  | .exit i, s => some (.exit i, s)
  | .ret, s => some (.ret, s)
  | .rangeFunc f ps assign body, s =>
    match xenter rd (.loop ⟨s.tm, sz, ps, assign, body, .ready, none⟩) s with
    | none => none
    | some s1 => match ev s.tm f with
      | .fn g caps => match H (.fn g caps) [.yld s.nx] s1.st s1.nx with
        | some (_, st2, nx2) => match look st2 s.nx with
          | some (.loop r2) => match isBusy r2.state with
            | true => none
            | false => match r2.pending with
              | none => some (.normal, ⟨s.tm, s1.ds, (s.nx, .loop { r2 with state := .exhausted }) :: st2, nx2, s.b0⟩)
              | some (.exit i) => some (.exit i, ⟨s.tm, s1.ds, (s.nx, .loop { r2 with state := .exhausted }) :: st2, nx2, s.b0⟩)
              | some .ret => some (.ret, ⟨s.tm, s1.ds, (s.nx, .loop { r2 with state := .exhausted }) :: st2, nx2, s.b0⟩)
              | _ => none
          | _ => none
        | none => none
      | _ => none
  | _, _ => none

/-- The results: one as it is; several made clean. -/
def xres (fn : Func) (tm : TM) (st : ST) : Option (V × ST) := match fn.results.toList with
  | [.tmp t] => some ((look tm t).getD .top, st)
  | [.cell a t] => (loadR P t (ev tm (.tmp a))).x st
  | l => (resR P tm l []).x st

def xmarks : List Nat → ST → Option ST
  | [], st => some st
  | b :: ds, st => match look st b with
    | some (.mark true) => xmarks ds ((b, .mark false) :: st)
    | _ => none

/-- A function is entered. -/
def xfn (fuel : Nat) (fn : Func) (c : Code) (args : List V) (st : ST) (top : Nat) : Option (V × ST × Nat) :=
  match Nat.ble args.length fn.ntmps with
  | false => none
  | true => match xcode P H X fuel fn.ntmps none c ⟨startT args, [], (top, .dead) :: st, top + 1, top⟩ with
    | none => none
    | some (.exit _, _) => none
    | some (_, s) => match xmarks s.ds s.st with
      | none => none
      | some st1 => match xres P fn s.tm st1 with
        | none => none
        | some (r, st2) => kV0 r fun r => some (r, sweep top r st2, s.nx)

/-- A round of a range over a function. -/
def xround (fuel : Nat) (b : Nat) (args : List V) (st : ST) (top : Nat) : Option (V × ST × Nat) := match look st b with
  | some (.loop r) => match isReady r.state with
    | true => match Nat.beq args.length r.ps.size && r.ps.toList.all fun p => Nat.ble (p + 1) r.sz with
      | false => none
      | true => match xcode P H X fuel r.sz (some b) r.assign ⟨(r.ps.toList.zip args).foldl (fun t p => p :: t) r.tm, [], (top, .dead) :: st, top + 1, top⟩ with
        | some (.normal, s1) => match look s1.st b with
          | some (.loop r1) => match isReady r1.state with
            | true => match xcode P H X fuel r.sz (some b) r.body ⟨s1.tm, s1.ds, (b, .loop { r1 with state := .busy }) :: s1.st, s1.nx, s1.b0⟩ with
              | none => none
              | some (e, s2) => match look s2.st b with
                | some (.loop r2) => match e with
                  | .normal => some (.v (.bool true), sweep top .top ((b, .loop { r2 with state := .ready, pending := none }) :: s2.st), s2.nx)
                  | .exit i => some (.v (.bool false), sweep top .top ((b, .loop { r2 with state := .done, pending := some (.exit i) }) :: s2.st), s2.nx)
                  | .ret => some (.v (.bool false), sweep top .top ((b, .loop { r2 with state := .done, pending := some .ret }) :: s2.st), s2.nx)
                | _ => none
            | false => none
          | _ => none
        | _ => none
    | false => none
  | _ => none
end


/-- The functions that are followed. -/
abbrev XG := FuncId → Option Func

/-- A call on clean values, with no boxes. -/
def xpure (P : Program) (H : XH) (g : FuncId) (avs : List V) : Option V := match H (.fn g []) avs [] 0 with
  | some (r, st, _) => ((fz 4 r .ret).x st).map (·.1)
  | none => none

def xpures (P : Program) (G : XG) (H : XH) (g : FuncId) : Option (List V → Option V) := match G g with
  | some _ => some (xpure P H g)
  | none => none

/-- Calls, to a depth. -/
def xcall (P : Program) (G : XG) (fuel : Nat) : Nat → XH
  | 0 => fun _ _ _ _ => none
  | n + 1 => fun c avs st top => match c with
    | .fn g caps => match G g with
      | some fn => match fn.body with
        | some code => xfn P (xcall P G fuel n) (xpures P G (xcall P G fuel n)) fuel fn code (avs ++ caps) st top
        | none => none
      | none => none
    | .yld b => xround P (xcall P G fuel n) (xpures P G (xcall P G fuel n)) fuel b avs st top
    | _ => none

end
end Go.Ev
/- The evaluator's runs are the model's: operations, regions. -/
set_option linter.unusedVariables false
set_option linter.unusedSimpArgs false
namespace Go.Ev
open Go.RowKit

section
variable {O : Nat → Prop} {w0 : World} {F0 : FZ} {M0 : MP} {D : List Deferred} {U : Nat → Prop} {F : FZ} {m : MP} {sz : Nat} {tm : TM} {st : ST} {a : Act} {w : World}

theorem Rel.act (h : Rel O w0 F0 M0 D U F m sz tm st a w) {D' : List Deferred} {sz' : Nat} {tm' : TM} {a' : Act} (htm : ∀ i, RV m F w.heap ((look tm' i).getD .top) (a'.tmps.getD i undef)) (hsz : a'.tmps.size = sz') (hde : a'.defers = D') :
    Rel O w0 F0 M0 D' U F m sz' tm' st a' w :=
  { htm := htm, hsz := hsz, hde := hde, nst := h.nst, hst := h.hst, inj := h.inj, fresh := h.fresh, f0 := h.f0, f1 := h.f1, f2 := h.f2, mlt := h.mlt, pin := h.pin, keep := h.keep, below := h.below, hb := h.hb }

/-- Seen from here on. -/
theorem Rel.base (h : Rel O w0 F0 M0 D U F m sz tm st a w) : Rel O w F m D U F m sz tm st a w :=
  { htm := h.htm, hsz := h.hsz, hde := h.hde, nst := h.nst, hst := h.hst, inj := h.inj, fresh := h.fresh, f0 := fun _ _ e => e, f1 := fun _ _ e => .inl e, f2 := h.f2, mlt := h.mlt, pin := fun _ _ e => e, keep := Keeps.refl _ _, below := Own.refl _ _, hb := fun g hg => h.hb g (Nat.le_trans h.below.size hg) }

theorem Rel.comp (h : Rel O w0 F0 M0 D U F m sz tm st a w) {D' : List Deferred} {U' : Nat → Prop} {F' : FZ} {m' : MP} {sz' : Nat} {tm' : TM} {st' : ST} {a' : Act} {w' : World} (k : Rel O w F m D' U' F' m' sz' tm' st' a' w') :
    Rel O w0 F0 M0 D' U' F' m' sz' tm' st' a' w' :=
  { htm := k.htm, hsz := k.hsz, hde := k.hde, nst := k.nst, hst := k.hst, inj := k.inj, fresh := k.fresh, f0 := fun g j e => k.f0 g j (h.f0 g j e), f1 := fun g j e => (k.f1 g j e).elim (h.f1 g j) .inr, f2 := k.f2, mlt := k.mlt, pin := fun b y e => k.pin b y (h.pin b y e),
    keep := fun g j e => (k.keep g j (h.f0 g j e)).trans (h.keep g j e), below := h.below.trans k.below, hb := h.hb }

/-- The memory alone. -/
abbrev RelH (O : Nat → Prop) (w0 : World) (F0 : FZ) (M0 : MP) (top : Nat) (F : FZ) (m : MP) (st : ST) (w : World) : Prop := Rel O w0 F0 M0 [] (fun b => top ≤ b) F m 0 [] st ⟨#[], []⟩ w

theorem Rel.toH {top : Nat} (h : Rel O w0 F0 M0 D (fun b => top ≤ b) F m sz tm st a w) : RelH O w F m top F m st w := h.base.act (fun i => trivial) rfl rfl

theorem Rel.heap {top : Nat} (h : Rel O w0 F0 M0 D (fun b => top ≤ b) F m sz tm st a w) : RelH O w0 F0 M0 top F m st w := h.act (tm' := []) (a' := ⟨#[], []⟩) (fun i => trivial) rfl rfl

theorem Rel.back (h : Rel O w0 F0 M0 D U F m sz tm st a w) {top' : Nat} {F' : FZ} {m' : MP} {st' : ST} {w' : World} (k : RelH O w F m top' F' m' st' w') : Rel O w0 F0 M0 D (fun b => top' ≤ b) F' m' sz tm st' a w' :=
  (h.comp k).act (fun i => (h.htm i).mono k.pin k.f0 k.keep) h.hsz h.hde

/-- A new object. -/
theorem Rel.newO (h : Rel O w0 F0 M0 D U F m sz tm st a w) {id cap : Nat} (hU : U id) {o : Obj} {x : Bx} (hx : x ≠ .dead)
    (hbx : ∀ m', (∀ b y, m b = some y → m' b = some y) → m' id = some (w.heap.size, cap) → Keeps F w.heap (w.alloc o).heap →
      (w.alloc o).heap[w.heap.size]? = some o → (∀ j, ¬ F w.heap.size j) → RBx O m' F (w.alloc o).heap id x) (hnn : isNest x = false := by rfl) :
    Rel O w0 F0 M0 D (fun b => U b ∧ b ≠ id) F (fun b => if b = id then some (w.heap.size, cap) else m b) sz tm ((id, x) :: st) a (w.alloc o) ∧
    (∀ b y, m b = some y → (fun b => if b = id then some (w.heap.size, cap) else m b) b = some y) ∧ Keeps F w.heap (w.alloc o).heap := by
  have hm : ∀ b y, m b = some y → (fun b => if b = id then some (w.heap.size, cap) else m b) b = some y := by
    intro b y hb
    by_cases e : b = id
    · subst e; rw [(h.fresh b hU).2] at hb; cases hb
    · simp [e, hb]
  have hold : ∀ k, k < w.heap.size → (w.alloc o).heap[k]? = w.heap[k]? := fun k hk => Below.heap_alloc w _ _ hk
  have hk : Keeps F w.heap (w.alloc o).heap := fun g j hj => by rw [cellsAt_congr (hold g (h.f2 g j hj))]
  refine ⟨?_, hm, hk⟩
  refine { htm := fun i => (h.htm i).mono hm (fun _ _ e => e) hk, hsz := h.hsz, hde := h.hde, hst := ?_, inj := ?_, fresh := ?_, keep := fun g j hj => (hk g j (h.f0 _ _ hj)).trans (h.keep g j hj), pin := fun b y e => hm b y (h.pin b y e), f0 := h.f0, f1 := h.f1, f2 := ?_, mlt := ?_, below := h.below.alloc h.hb _, hb := h.hb, nst := ?_ }
  rotate_left 5
  · obtain ⟨L, hL⟩ := h.nst
    have hL1 : NOK O F m st (w.alloc o).heap L := hL.mono (fun _ _ e => e) hk (by simp) (fun g b i hg => ⟨hold g (hL.lo g b i hg).2.1, fun _ e => e⟩) hL.al
      (fun b x hx => .inr (.inr ⟨hx, fun g c hm => ⟨hm, hold g (h.mlt _ _ _ hm)⟩⟩))
    exact ⟨L, hL1.add h.fresh hU (fun b i hg => absurd (hL.lo _ b i hg).2.1 (Nat.lt_irrefl _)) (NX_of_not hnn)⟩
  · intro b y hy
    rw [look_cons] at hy
    split at hy
    · next e =>
      subst e; cases hy
      exact hbx _ hm (by simp) hk (by have := heap_alloc_new w o; exact this) (fun j hj => absurd (h.f2 _ _ hj) (by omega))
    · next hne =>
      refine (h.hst b y hy).mono hm (fun _ _ e => e) hk (fun g c hg => ⟨hold g (h.mlt _ _ _ hg), fun j hj => hj⟩) (fun e => by simp [show b ≠ id from fun e' => hne e'.symm, e])
  · intro b b' g c c' ha ha' hg hg'
    by_cases e : b = id
    · by_cases e' : b' = id
      · rw [e, e']
      · simp only [e, if_true, Option.some.injEq, Prod.mk.injEq] at hg
        simp only [e', if_false] at hg'
        exact absurd (h.mlt _ _ _ hg') (by omega)
    · by_cases e' : b' = id
      · simp only [e', if_true, Option.some.injEq, Prod.mk.injEq] at hg'
        simp only [e, if_false] at hg
        exact absurd (h.mlt _ _ _ hg) (by omega)
      · simp only [e, if_false] at hg
        simp only [e', if_false] at hg'
        have al : ∀ b, b ≠ id → aliveB ((id, x) :: st) b → aliveB st b := by
          rintro b hb ⟨y, hy, hy0⟩
          rw [look_cons, if_neg (fun e => hb e.symm)] at hy
          exact ⟨y, hy, hy0⟩
        exact h.inj b b' g c c' (al b e ha) (al b' e' ha') hg hg'
  · rintro b ⟨hb, hne⟩
    refine ⟨?_, by simp [hne, (h.fresh b hb).2]⟩
    rw [look_cons, if_neg (fun e => hne e.symm)]
    exact (h.fresh b hb).1
  · intro g j hj
    have := h.f2 g j hj
    simp; omega
  · intro b g c hb
    by_cases e : b = id
    · simp only [e, if_true, Option.some.injEq, Prod.mk.injEq] at hb
      simp; omega
    · simp only [e, if_false] at hb
      have := h.mlt _ _ _ hb
      simp; omega

/-- An object that is no cells is written. -/
theorem Rel.putO (h : Rel O w0 F0 M0 D U F m sz tm st a w) {b g c : Nat} {x0 x1 : Bx} (hl : look st b = some x0) (h0 : x0 ≠ .dead) (h1 : x1 ≠ .dead) (hm : m b = some (g, c)) (hg : O g) (hF : ∀ j, ¬ F g j) {o : Obj}
    (hx : Keeps F w.heap (w.putObj g o).heap → (w.putObj g o).heap[g]? = some o → RBx O m F (w.putObj g o).heap b x1) (hnn : isNest x1 = false := by rfl) :
    Rel O w0 F0 M0 D U F m sz tm ((b, x1) :: st) a (w.putObj g o) := by
  have hlt := h.mlt _ _ _ hm
  have hnew : (w.putObj g o).heap[g]? = some o := World.putObj_heap_same hlt
  have hk : Keeps F w.heap (w.putObj g o).heap := by
    intro k j hj
    by_cases e : k = g
    · subst e; exact absurd hj (hF j)
    · rw [cellsAt_congr (World.putObj_heap_other e)]
  have hal : ∀ b', aliveB ((b, x1) :: st) b' → aliveB st b' := by
    rintro b' ⟨y, hy, hy0⟩
    rw [look_cons] at hy
    split at hy
    · next e => subst e; exact ⟨x0, hl, h0⟩
    · exact ⟨y, hy, hy0⟩
  refine { htm := fun i => (h.htm i).mono (fun _ _ e => e) (fun _ _ e => e) hk, hsz := h.hsz, hde := h.hde, hst := ?_, inj := fun b1 b2 g' c1 c2 a1 a2 => h.inj b1 b2 g' c1 c2 (hal _ a1) (hal _ a2), fresh := ?_, keep := fun g j hj => (hk g j (h.f0 _ _ hj)).trans (h.keep g j hj), pin := h.pin, f0 := h.f0, f1 := h.f1, f2 := ?_, mlt := ?_, below := ?_, hb := h.hb, nst := h.nst.imp fun L hL => hL.write hl h0 hm hk (by simp) (fun k e => World.putObj_heap_other e) (fun b' g' c' ha hm' e => h.inj b' b g c' c ha ⟨x0, hl, h0⟩ (e ▸ hm') hm) (NX_of_not hnn) }
  · intro b' y hy
    rw [look_cons] at hy
    split at hy
    · next e => subst e; cases hy; exact hx hk hnew
    · next hne =>
      by_cases hd : y = .dead
      · subst hd; trivial
      refine (h.hst b' y hy).mono (fun _ _ e => e) (fun _ _ e => e) hk (fun g' c' hm' => ⟨?_, fun j hj => hj⟩) id
      refine World.putObj_heap_other ?_
      rintro rfl
      exact hne (h.inj b b' _ c c' ⟨x0, hl, h0⟩ ⟨y, hy, hd⟩ hm hm')
  · intro b' hb'
    obtain ⟨e1, e2⟩ := h.fresh b' hb'
    refine ⟨?_, e2⟩
    rw [look_cons, if_neg (fun e => by subst e; rw [hl] at e1; cases e1)]
    exact e1
  · intro k j hj; have := h.f2 k j hj; simpa using this
  · intro b g c hb; have := h.mlt b g c hb; simpa using this
  · exact h.below.trans ⟨rfl, rfl, rfl, by simp, fun k hno => World.putObj_heap_other (fun e => hno (e ▸ hg))⟩
end

section
variable {P : Program}

def RVl (m : MP) (F : FZ) (H : Array Obj) (cs : List V) (xs : List Value) : Prop := cs.length = xs.length ∧ ∀ (i : Nat) (c : V) (x : Value), cs[i]? = some c → xs[i]? = some x → RV m F H c x

/-- What a call leaves behind. -/
def After (O : Nat → Prop) (w : World) (F : FZ) (m : MP) (st' : ST) (top' : Nat) (r : V) (e : Ending) (w' : World) : Prop :=
  ∃ v F' m', e = .returned v ∧ RelH O w F m top' F' m' st' w' ∧ RV m' F' w'.heap r v

def FnOK (P : Program) (g : FuncId) (args : List V) (st : ST) (top : Nat) (r : V) (st' : ST) (top' : Nat) : Prop :=
  ∀ (O : Nat → Prop) (F : FZ) (m : MP) (w : World) (vs : List Value), RelH O w F m top F m st w → RVl m F w.heap args vs → Calls P g vs.toArray w (After O w F m st' top' r)

def YldOK (P : Program) (b : Nat) (args : List V) (st : ST) (top : Nat) (r : V) (st' : ST) (top' : Nat) : Prop :=
  ∀ (O : Nat → Prop) (F : FZ) (m : MP) (w : World) (vs : List Value), RelH O w F m top F m st w → RVl m F w.heap args vs → ∀ g c, m b = some (g, c) →
    ∃ fn tmps assign body, (Instr.yield g vs.toArray).run P w = .ok (.round g fn tmps assign body) w ∧ ∀ FF, Wide FF → RoundIn FF 0 P g fn tmps assign body w (After O w F m st' top' r)

/-- Calls are followed as the model does. -/
def HOK (P : Program) (H : XH) : Prop := ∀ c avs st top r st' top', H c avs st top = some (r, st', top') → match c with
  | .fn g caps => EntersOK P g ∧ FnOK P g (avs ++ caps) st top r st' top'
  | .yld b => YldOK P b avs st top r st' top'
  | _ => False

theorem xop_ok {H : XH} (hH : HOK P H) (o : Oper) {O : Nat → Prop} {w0 : World} {F0 : FZ} {M0 : MP} {D : List Deferred} {F : FZ} {m : MP} {sz : Nat} {tm : TM} {st : ST} {a : Act} {w : World} {top : Nat} {v : V} {st' : ST} {top' : Nat} {next : Act → World → Prop} {Q : Exit → Act → World → Prop}
    (h : Rel O w0 F0 M0 D (fun b => top ≤ b) F m sz tm st a w) (hd : okDst sz o.dst = true) (hx : xop P H top tm st o.op = some (v, st', top'))
    (hn : ∀ F' m' a' w', Rel O w0 F0 M0 D (fun b => top' ≤ b) F' m' sz (putT tm o.dst v) st' a' w' → next a' w') : o.wpX P a w next Q := by
  have plain : (∀ v' st1, (opA P top (ev tm) o.op).x st = some (v', st1) → v' = v → st1 = st' → top' = top + 1 → o.wpX P a w next Q) := by
    rintro v' st1 he rfl rfl rfl
    refine opA_ok h (id := top) (Nat.le_refl _) hd (K := fun c s => c = v' ∧ s = st1) (RM.x_go _ _ _ _ he ⟨rfl, rfl⟩) ?_
    rintro F' m' c s a' w' hR ⟨rfl, rfl⟩
    exact hn F' m' a' w' (hR.weakU fun b hb => ⟨by omega, by omega⟩)
  have plain' : (match (opA P top (ev tm) o.op).x st with
      | some (v, st') => kV v fun v => kS st' fun st' => kN (top + 1) fun top' => some (v, st', top')
      | none => none) = some (v, st', top') → o.wpX P a w next Q := by
    intro he
    simp only [kV_eq, kS_eq, kN_eq] at he
    split at he
    · next v1 s1 h1 => cases he; exact plain _ _ h1 rfl rfl rfl
    · cases he
  have mv : ∀ x, (o.op = .move x ∨ o.op = .assign x) → some (ev tm x, st, top) = some (v, st', top') → o.wpX P a w next Q := by
    intro x ho he
    cases he
    exact fin_value (by rcases ho with ho | ho <;> simp [execOp, ho]) (hn F m _ _ (h.put hd (h.ev x)))
  cases ho : o.op with
  | move x => exact mv x (.inl ho) (by rw [ho] at hx; exact hx)
  | assign x => exact mv x (.inr ho) (by rw [ho] at hx; exact hx)
  | call c =>
    obtain ⟨callee, args, ts⟩ := c
    cases callee with
    | value f =>
      rw [ho] at hx
      have hx : H (ev tm f) (args.toList.map (ev tm)) st top = some (v, st', top') := hx
      have hf := h.ev f
      obtain ⟨hal, hav⟩ := args_rel h args.toList
      have hcall := hH _ _ _ _ _ _ _ hx
      revert hcall hf
      generalize ev tm f = cf
      intro hf hcall
      cases cf with
      | fn g caps =>
        obtain ⟨henter, hok⟩ := hcall
        obtain ⟨arr, hf', hl, hv⟩ := hf
        have hval : RVl m F w.heap (args.toList.map (ev tm) ++ caps) (args.toList.map a.eval ++ arr.toList) := by
          refine ⟨by rw [List.length_append, List.length_append, hal, hl], fun i c x hc hx => ?_⟩
          by_cases hi : i < (args.toList.map (ev tm)).length
          · rw [List.getElem?_append_left hi] at hc
            rw [List.getElem?_append_left (by omega)] at hx
            exact hav i c x hc hx
          · rw [List.getElem?_append_right (by omega)] at hc
            rw [List.getElem?_append_right (by omega), ← hal] at hx
            exact RV.of_RP (hv _ c x hc hx)
        have hrun : (execOp a.eval o).run P w = .ok (.enter g (args.toList.map a.eval ++ arr.toList).toArray) w := by
          simp only [execOp, ho, resolve, Deferred.ofValue, hf', Sem.run_bind, Sem.run_pure, Result.andThen_ok, invoke]
          have e : (#[] ++ args.map a.eval ++ arr) = (args.toList.map a.eval ++ arr.toList).toArray := by
            apply Array.ext'
            simp
          rw [e, henter]
        intro FF hW
        refine ⟨fun f _ => hW.fn f, ?_⟩
        rw [Oper.semAt_eq _ _ _ (not_defer hrun (fun d e => by cases e)), hrun]
        refine ⟨fun e => (by rw [hW.dep] at e; cases e), (callsIn_of_calls hW ?_)⟩
        refine (hok O F m w _ h.toH hval).mono ?_
        rintro e w' ⟨x, F', m', rfl, hR, hr⟩
        exact hn F' m' _ _ ((h.back hR).put hd hr)
      | yld b =>
        obtain ⟨g, c, hm, hf'⟩ := hf
        obtain ⟨fn, tmps, assign, body, hy, hround⟩ := hcall O F m w (args.toList.map a.eval) h.toH ⟨hal, hav⟩ g c hm
        have hrun : (execOp a.eval o).run P w = .ok (.round g fn tmps assign body) w := by
          simp only [execOp, ho, resolve, Deferred.ofValue, hf', Sem.run_bind, Sem.run_pure, Result.andThen_ok, invoke]
          have e : (#[] ++ args.map a.eval) = (args.toList.map a.eval).toArray := by
            apply Array.ext'
            simp
          rw [e, hy]
        intro FF hW
        refine ⟨fun f _ => hW.fn f, ?_⟩
        rw [Oper.semAt_eq _ _ _ (not_defer hrun (fun d e => by cases e)), hrun]
        refine ⟨fun e => (by rw [hW.dep] at e; cases e), (hround FF hW).mono ?_⟩
        rintro e w' ⟨x, F', m', rfl, hR, hr⟩
        exact hn F' m' _ _ ((h.back hR).put hd hr)
      | _ => exact hcall.elim
    | builtin b => exact plain' (by rw [ho] at hx ⊢; exact hx)
    | invoke r n => exact plain' (by rw [ho] at hx ⊢; exact hx)
  | _ => exact plain' (by rw [ho] at hx ⊢; exact hx)

theorem want_some {O : Nat → Prop} {w0 : World} {F0 : FZ} {M0 : MP} {D : List Deferred} {U : Nat → Prop} {F : FZ} {m : MP} {sz : Nat} {tm : TM} {st : ST} {a : Act} {w : World} (h : Rel O w0 F0 M0 D U F m sz tm st a w)
    {ops : Array Oper} {o : Oper} {b : Bool} (hw : want ops.toList tm o.guard = some b) : Region.wanted o (yielded ops a.tmps) = b := by
  unfold want at hw
  split at hw
  · next hg => cases hw; simp [Region.wanted, hg]
  · next j wt hg =>
    split at hw
    · cases hw
    · next d hd =>
      split at hw
      · next q hq =>
        cases hw
        have hy := yielded_of h hd hq
        simp [Region.wanted, hg, hy]
      · next arr hq =>
        cases hw
        have hy := yielded_not h hd hq
        simp [Region.wanted, hg, hy]
      · cases hw

/-- A region in the order of the text. -/
theorem xops_sound {H : XH} (hH : HOK P H) {FF : Fence} (hW : Wide FF) {O : Nat → Prop} {w0 : World} {F0 : FZ} {M0 : MP} {D : List Deferred} {sz : Nat} {ops : Array Oper} {Q : Exit → Act → World → Prop} {tm' : TM} {st' : ST} {nx' : Nat}
    (hn : ∀ F' m' a' w', Rel O w0 F0 M0 D (fun b => nx' ≤ b) F' m' sz tm' st' a' w' → Q .normal a' w') :
    ∀ (l : List Oper) (k : Nat) (top : Nat) (F : FZ) (m : MP) (tm : TM) (st : ST) (a : Act) (w : World), ops.toList.drop k = l → Rel O w0 F0 M0 D (fun b => top ≤ b) F m sz tm st a w →
      xops P H sz ops.toList l top tm st = some (tm', st', nx') → wpOpsIn FF 0 P ops Q ((List.range ops.size).drop k) a w
  | [], k, top, F, m, tm, st, a, w, hl, h, hg => by
    have hk : ops.size ≤ k := by
      have := congrArg List.length hl
      simp at this
      omega
    rw [List.drop_of_length_le (by simpa using hk)]
    cases hg
    exact hn F m a w h
  | o :: l, k, top, F, m, tm, st, a, w, hl, h, hg => by
    have hk : k < ops.size := by
      have := congrArg List.length hl
      simp at this
      omega
    have ho : ops[k]? = some o := by
      have : (ops.toList.drop k)[0]? = some o := by rw [hl]; rfl
      rw [List.getElem?_drop, Nat.add_zero, Array.getElem?_toList] at this
      exact this
    have hl' : ops.toList.drop (k + 1) = l := by
      rw [← List.drop_drop, hl]; rfl
    have hr : (List.range ops.size).drop k = k :: (List.range ops.size).drop (k + 1) := by
      rw [List.drop_eq_getElem_cons (by simpa using hk)]
      simp
    rw [hr]
    simp only [wpOpsIn, ho]
    simp only [xops] at hg
    split at hg
    · cases hg
    · next hd =>
      split at hg
      · cases hg
      · next hw =>
        have hw' := want_some h hw
        rw [if_neg (by rw [hw']; simp)]
        exact ⟨fun f _ => hW.fn f, xops_sound hH hW hn l (k + 1) top F m _ st _ w hl' (h.put hd (c := vU) rfl) hg⟩
      · next hw =>
        have hw' := want_some h hw
        rw [if_pos hw']
        split at hg
        · cases hg
        · next v st1 top1 hx =>
          refine xop_ok hH o h hd hx ?_ FF hW
          intro F1 m1 a1 w1 hR
          exact xops_sound hH hW hn l (k + 1) top1 F1 m1 _ st1 a1 w1 hl' hR hg
end
end Go.Ev
/- The evaluator's runs are the model's: regions whose order is open; code. -/
set_option linter.unusedVariables false
set_option linter.unusedSimpArgs false
namespace Go.Ev
open Go.RowKit

theorem dec_xT {p : Prop} [d : Decidable p] {k : RM} {st : ST} {rs ws : List Nat} {z : V × ST × List Nat × List Nat} (h : (RM.dec p k).xT st rs ws = some z) : p ∧ k.xT st rs ws = some z := by
  cases d with
  | isTrue hp => exact ⟨hp, h⟩
  | isFalse _ => cases h

theorem RM.xT_go {K : V → ST → List Nat → List Nat → Prop} : ∀ (r : RM) (st : ST) (rs ws : List Nat) (v : V) (st' : ST) (rs' ws' : List Nat), r.xT st rs ws = some (v, st', rs', ws') → K v st' rs' ws' → r.goT st rs ws K
  | .fail, _, _, _, _, _, _, _, h, _ => by cases h
  | .ret _, _, _, _, _, _, _, _, h, hk => by cases h; exact hk
  | .req _ _, _, _, _, _, _, _, _, h, _ => by cases h
  | @RM.dec p k d, st, rs, ws, v, st', rs', ws', h, hk => by
    obtain ⟨hp, h⟩ := dec_xT h
    exact ⟨hp, xT_go k st rs ws v st' rs' ws' h hk⟩
  | .exi _ _ _, _, _, _, _, _, _, _, h, _ => by cases h
  | .get b k, st, rs, ws, v, st', rs', ws', h, hk => by
    simp only [RM.xT] at h
    simp only [RM.goT]
    split at h
    · next y hy => simp only [hy]; exact xT_go (k y) st (b :: rs) ws v st' rs' ws' h hk
    · cases h
  | .put b y k, st, rs, ws, v, st', rs', ws', h, hk => xT_go k _ rs (b :: ws) v st' rs' ws' h hk

section
variable {K : V → ST → List Nat → List Nat → Prop} {z : V × ST × List Nat × List Nat}

theorem mapRM_xT {f : V → (V → RM) → RM} (hf : ∀ (c : V) (k1 k2 : V → RM) (st : ST) (rs ws : List Nat), (f c k1).xT st rs ws = some z → (∀ c' st rs ws, (k1 c').xT st rs ws = some z → (k2 c').goT st rs ws K) → (f c k2).goT st rs ws K) :
    ∀ (cs : List V) (k1 k2 : List V → RM) (st : ST) (rs ws : List Nat), (mapRM f cs k1).xT st rs ws = some z → (∀ cs' st rs ws, (k1 cs').xT st rs ws = some z → (k2 cs').goT st rs ws K) → (mapRM f cs k2).goT st rs ws K
  | [], k1, k2, st, rs, ws, h, hk => hk [] st rs ws h
  | c :: cs, k1, k2, st, rs, ws, h, hk => hf c _ _ st rs ws h fun c' st1 rs1 ws1 h1 => mapRM_xT hf cs _ _ st1 rs1 ws1 h1 fun cs' st2 rs2 ws2 h2 => hk _ st2 rs2 ws2 h2

theorem fz_xT : ∀ (d : Nat) (c : V) (k1 k2 : V → RM) (st : ST) (rs ws : List Nat), (fz d c k1).xT st rs ws = some z → (∀ c' st rs ws, (k1 c').xT st rs ws = some z → (k2 c').goT st rs ws K) → (fz d c k2).goT st rs ws K
  | 0, _, _, _, _, _, _, h, _ => by cases h
  | d + 1, c, k1, k2, st, rs, ws, h, hk => by
    have ih := fz_xT d
    cases c with
    | osl b n =>
      simp only [fz, RM.xT] at h
      simp only [fz, RM.goT]
      split at h
      · next y hy =>
        simp only [hy]
        cases y with
        | row e size cs p =>
          obtain ⟨hp, h⟩ := dec_xT h
          exact ⟨hp, hk _ _ _ _ h⟩
        | nest e e2 s2 cs hole =>
          cases hole with
          | nil =>
            obtain ⟨hp, h⟩ := dec_xT h
            exact ⟨hp, hk _ _ _ _ h⟩
          | cons i l => cases h
        | _ => cases h
      · cases h
    | box b off =>
      simp only [fz, RM.xT] at h
      simp only [fz, RM.goT]
      split at h
      · next y hy =>
        simp only [hy]
        cases y with
        | row e size cs p => exact hk _ _ _ _ h
        | var cs f => exact mapRM_xT (fun c k1 k2 st rs ws => ih c k1 k2 st rs ws) cs _ _ _ _ _ h fun cs' st1 rs1 ws1 h1 => hk _ _ _ _ h1
        | _ => cases h
      · cases h
    | fn g caps => exact mapRM_xT (fun c k1 k2 st rs ws => ih c k1 k2 st rs ws) caps _ _ _ _ _ h fun cs' st1 rs1 ws1 h1 => hk _ _ _ _ h1
    | ag cs => exact mapRM_xT (fun c k1 k2 st rs ws => ih c k1 k2 st rs ws) cs _ _ _ _ _ h fun cs' st1 rs1 ws1 h1 => hk _ _ _ _ h1
    | yld b => cases h
    | top => exact hk _ _ _ _ h
    | v y => exact hk _ _ _ _ h
    | agg cs => exact hk _ _ _ _ h
    | tup cs => exact hk _ _ _ _ h
    | sl cs n => exact hk _ _ _ _ h
    | fptr cs => exact hk _ _ _ _ h
end

/-- What a function returns, by a run. -/
def conX (f : List V → Option V) : Con := { α := List V × V, enc := Prod.fst, ok := fun x => f x.1 = some x.2, res := Prod.snd }
def ctxX (X : FuncId → Option (List V → Option V)) : FuncId → Option Con := fun g => match X g with
  | some f => some (conX f)
  | none => none

section
variable {P : Program} {X : FuncId → Option (List V → Option V)}

theorem xopT_go {K : V → ST → List Nat → List Nat → Prop} {id : Nat} {tm : TM} {op : Op} {st : ST} {v : V} {st' : ST} {rs' ws' : List Nat} (h : (xopT P X id tm op).xT st [] [] = some (v, st', rs', ws')) (hk : K v st' rs' ws') :
    (opR P (ctxX X) id (ev tm) op).goT st [] [] K := by
  have plain : xopT P X id tm op = opR P (fun _ => none) id (ev tm) op → opR P (fun _ => none) id (ev tm) op = opR P (ctxX X) id (ev tm) op → (opR P (ctxX X) id (ev tm) op).goT st [] [] K := by
    intro e1 e2
    rw [← e2, ← e1]
    exact RM.xT_go _ _ _ _ _ _ _ _ h hk
  cases op with
  | call c =>
    obtain ⟨callee, args, ts⟩ := c
    cases callee with
    | value f =>
      simp only [xopT] at h
      simp only [opR]
      split at h
      · next g caps hg =>
        simp only [hg, ctxX]
        split at h
        · next fx hfx =>
          simp only [hfx, conX]
          refine mapRM_xT (fun c k1 k2 st rs ws => fz_xT 4 c k1 k2 st rs ws) _ _ _ _ _ _ h ?_
          intro avs st1 rs1 ws1 h1
          split at h1
          · next r hr =>
            rw [RM.retF_eq] at h1 
            refine ⟨(avs, r), ⟨levs_eq rfl, hr⟩, ?_⟩
            show (RM.retF r).goT _ _ _ _
            rw [RM.retF_eq]
            cases h1
            exact hk
          · cases h1
        · cases h
      · cases h
    | builtin b => exact plain rfl rfl
    | invoke r n => exact plain rfl rfl
  | _ => exact plain rfl rfl

theorem want_br {all : List Oper} {tm : TM} {o : Oper} {b : Bool} (hw : want all tm o.guard = some b) : (o.guard = none ∧ b = true) ∨ (∃ j wt d q, o.guard = some (j, wt) ∧ (all[j]?).bind (·.dst) = some d ∧ (look tm d).getD .top = .v (.bool q) ∧ b = (q == wt)) ∨ (b = false ∧ ∃ j wt d arr, o.guard = some (j, wt) ∧ (all[j]?).bind (·.dst) = some d ∧ (look tm d).getD .top = .v (.tuple arr)) := by
  unfold want at hw
  split at hw
  · next hg => cases hw; exact .inl ⟨hg, rfl⟩
  · next j wt hg =>
    split at hw
    · cases hw
    · next d hd =>
      split at hw
      · next q hq => cases hw; exact .inr (.inl ⟨j, wt, d, q, hg, hd, hq, rfl⟩)
      · next arr hq => cases hw; exact .inr (.inr ⟨rfl, j, wt, d, arr, hg, hd, hq⟩)
      · cases hw

theorem xopsD_ev {sz : Nat} {ops : Array Oper} {nx : Nat} {K : TM → ST → Prop} {tm' : TM} {st' : ST} (hk : K tm' st') : ∀ (l : List Oper) (i : Nat) (tm : TM) (st : ST) (prev : List (Nat × Oper × List Nat × List Nat)),
    xopsD P X sz ops nx l i tm st prev = some (tm', st') → evOpsD P (ctxX X) sz ops nx l i tm st prev K
  | [], i, tm, st, prev, h => by cases h; exact hk
  | o :: os, i, tm, st, prev, h => by
    simp only [xopsD] at h
    unfold evOpsD
    split at h
    · cases h
    · next hd =>
      simp only [hd]
      split at h
      · cases h
      · next hw =>
        split at h
        · cases h
        · next v st1 rs1 ws1 hx =>
          split at h
          · cases h
          · next hi =>
            have go := xopT_go (K := fun v st' rs ws => match indepB ops o rs ws prev with
              | false => False
              | true => evOpsD P (ctxX X) sz ops nx os (i + 1) (putT tm o.dst v) st' ((i, o, rs, ws) :: prev) K) hx (by simp only [hi]; exact xopsD_ev hk os (i + 1) _ _ _ h)
            rcases want_br hw with ⟨hg, _⟩ | ⟨j, wt, d, q, hg, hdj, hq, hb⟩ | ⟨hb, _⟩
            · simp only [hg]; exact go
            · simp only [hg, hdj, hq]
              have : q = wt := by simpa using hb.symm
              subst this
              cases q with
              | true => exact go
              | false => exact go
            · cases hb
      · next hw =>
        split at h
        · cases h
        · next hi =>
          have go := xopsD_ev hk os (i + 1) _ _ _ h
          rcases want_br hw with ⟨_, hb⟩ | ⟨j, wt, d, q, hg, hdj, hq, hb⟩ | ⟨_, j, wt, d, arr, hg, hdj, hq⟩
          · cases hb
          · simp only [hg, hdj, hq]
            cases q with
            | true =>
              cases wt with
              | true => cases hb
              | false => simp only [br, hi]; exact go
            | false =>
              cases wt with
              | true => simp only [br, hi]; exact go
              | false => cases hb
          · simp only [hg, hdj, hq, hi]; exact go
end

/-- The marks of an activation. -/
def MarksR (m : MP) : List Nat → List Deferred → Prop
  | [], [] => True
  | b :: ds, d :: D => (∃ g c, m b = some (g, c) ∧ d = { target := .collected g, args := #[] }) ∧ MarksR m ds D
  | _, _ => False

theorem MarksR.mono {m m' : MP} (hm : ∀ b y, m b = some y → m' b = some y) : ∀ {ds : List Nat} {D : List Deferred}, MarksR m ds D → MarksR m' ds D
  | [], [], _ => trivial
  | b :: ds, d :: D, ⟨⟨g, c, h1, h2⟩, h3⟩ => ⟨⟨g, c, hm _ _ h1, h2⟩, h3.mono hm⟩
  | [], _ :: _, h => h.elim
  | _ :: _, [], h => h.elim

theorem look_tidyT : ∀ (n : Nat) {tm : TM} {i : Nat} {v : V}, look (tidyT n tm) i = some v → look tm i = some v
  | 0, _, _, _, h => by cases h
  | n + 1, tm, i, v, h => by
    simp only [tidyT] at h
    split at h
    · next u hu =>
      rw [kV0_eq, look_cons] at h
      split at h
      · next e => subst e; cases h; exact hu
      · exact look_tidyT n h
    · exact look_tidyT n h

theorem memN_cons (b j : Nat) (l : List Nat) : memN (b :: l) j = (Nat.beq b j || memN l j) := by
  show Bool.rec (motive := fun _ => Bool) (memN l j) true (Nat.beq b j) = _
  cases Nat.beq b j <;> rfl

theorem beq_ne {b j : Nat} (h : ¬ b = j) : Nat.beq b j = false := by
  cases e : Nat.beq b j with
  | false => rfl
  | true => exact absurd (Nat.eq_of_beq_eq_true e) h

theorem look_tidyS (b0 : Nat) : ∀ (st : ST) (seen : List Nat) (j : Nat), memN seen j = false → look (tidyS b0 seen st) j = look st j
  | [], _, _, _ => rfl
  | (b, x) :: st, seen, j, h => by
    simp only [tidyS]
    split
    · rfl
    · split
      · next hb =>
        rw [look_cons, if_neg (by rintro rfl; rw [hb] at h; cases h)]
        exact look_tidyS b0 st seen j h
      · next hb =>
        rw [look_cons, look_cons]
        split
        · rfl
        · next hne => exact look_tidyS b0 st (b :: seen) j (by rw [memN_cons, beq_ne hne, h]; rfl)

theorem look_sieve (p : Nat → Bool) : ∀ (st : ST) (j : Nat), look (sieve p st) j = if p j = true then look st j else none
  | [], j => by simp [sieve]
  | (b, x) :: st, j => by
    have ih := look_sieve p st j
    have e : sieve p ((b, x) :: st) = Bool.rec (motive := fun _ => ST) (sieve p st) ((b, x) :: sieve p st) (p b) := rfl
    rw [e]
    cases hb : p b with
    | false =>
      show look (sieve p st) j = _
      rw [ih, look_cons]
      by_cases hj : b = j
      · subst hj; simp [hb]
      · rw [if_neg hj]
    | true =>
      show look ((b, x) :: sieve p st) j = _
      rw [look_cons, look_cons, ih]
      by_cases hj : b = j
      · subst hj; simp [hb]
      · simp [hj]

section
variable {O : Nat → Prop} {w0 : World} {F0 : FZ} {M0 : MP} {D : List Deferred} {U : Nat → Prop} {F : FZ} {m : MP} {sz : Nat} {tm : TM} {st : ST} {a : Act} {w : World}
theorem Rel.sieve (h : Rel O w0 F0 M0 D U F m sz tm st a w) (p : Nat → Bool) : Rel O w0 F0 M0 D U F m sz tm (sieve p st) a w := by
  have hl : ∀ b x, look (Go.Ev.sieve p st) b = some x → look st b = some x := by
    intro b x hx
    rw [look_sieve] at hx
    split at hx
    · exact hx
    · cases hx
  have hal : ∀ b, aliveB (Go.Ev.sieve p st) b → aliveB st b := by rintro b ⟨x, hx, h0⟩; exact ⟨x, hl b x hx, h0⟩
  exact { h with hst := fun b x hx => h.hst b x (hl b x hx), inj := fun b b' g c c' a1 a2 => h.inj b b' g c c' (hal b a1) (hal b' a2), fresh := fun b hb => ⟨by rw [look_sieve, (h.fresh b hb).1]; simp, (h.fresh b hb).2⟩, nst := h.nst.imp fun L hL => hL.less (fun b _ _ => hal b) fun b x hx => .inr (hl b x hx) }

theorem Rel.sweep (h : Rel O w0 F0 M0 D U F m sz tm st a w) (top : Nat) (r : V) : Rel O w0 F0 M0 D U F m sz tm (sweep top r st) a w := by
  unfold Go.Ev.sweep
  exact h.sieve _

theorem Rel.sent {top : Nat} (h : Rel O w0 F0 M0 D (fun b => top ≤ b) F m sz tm st a w) : Rel O w0 F0 M0 D (fun b => top + 1 ≤ b) F m sz tm ((top, .dead) :: st) a w := by
  have hal : ∀ b, aliveB ((top, .dead) :: st) b → aliveB st b := by
    rintro b ⟨x, hx, h0⟩
    rw [look_cons] at hx
    split at hx
    · cases hx; exact absurd rfl h0
    · exact ⟨x, hx, h0⟩
  refine { h with hst := fun b x hx => ?_, inj := fun b b' g c c' a1 a2 => h.inj b b' g c c' (hal b a1) (hal b' a2), fresh := fun b hb => ⟨?_, (h.fresh b (by omega)).2⟩, nst := h.nst.imp fun L hL => hL.less (fun b _ _ => hal b) fun b x hx => (by
    rw [look_cons] at hx
    split at hx
    · cases hx; exact .inl rfl
    · exact .inr hx) }
  · rw [look_cons] at hx
    split at hx
    · cases hx; trivial
    · exact h.hst b x hx
  · rw [look_cons, if_neg (by omega)]
    exact (h.fresh b (by omega)).1

theorem Rel.tidy (h : Rel O w0 F0 M0 D U F m sz tm st a w) (n b0 : Nat) : Rel O w0 F0 M0 D U F m sz (tidyT n tm) (tidyS b0 [] st) a w := by
  refine (h.congr (st' := tidyS b0 [] st) fun j => look_tidyS b0 st [] j rfl).act (fun i => ?_) h.hsz h.hde
  cases hl : look (tidyT n tm) i with
  | none => exact trivial
  | some v =>
    have := h.htm i
    rw [look_tidyT n hl] at this
    exact this
end

/-- The frame of a round knows its record. -/
def RdOK (m : MP) (FF : Fence) : Option Nat → Prop
  | none => FF.round = none
  | some b => ∃ l c, FF.round = some l ∧ m b = some (l, c)

theorem RdOK.mono {m m' : MP} (hm : ∀ b y, m b = some y → m' b = some y) {FF : Fence} : ∀ {rd : Option Nat}, RdOK m FF rd → RdOK m' FF rd
  | none, h => h
  | some b, ⟨l, c, h1, h2⟩ => ⟨l, c, h1, hm _ _ h2⟩

def exOf : AX → Exit
  | .normal => .normal
  | .exit i => .exit i
  | .ret => .ret

section
variable {P : Program} {H : XH} {X : FuncId → Option (List V → Option V)}

theorem xloop_sound {f : XS → Option (AX × XS)} {FF : Fence} {O : Nat → Prop} {w0 : World} {F0 : FZ} {m0 : MP} {sz : Nat} {c : Code} {e : AX} {s' : XS} {QQ : Exit → Act → World → Prop}
    (hq : ∀ a' w' F' m' D', Rel O w0 F0 m0 D' (fun b => s'.nx ≤ b) F' m' sz s'.tm s'.st a' w' → MarksR m' s'.ds D' → QQ (exOf e) a' w')
    (hf : ∀ (s : XS) (e1 : AX) (s1 : XS), f s = some (e1, s1) → ∀ (QQ : Exit → Act → World → Prop) (F : FZ) (m : MP) (D : List Deferred) (a : Act) (w : World), Rel O w0 F0 m0 D (fun b => s.nx ≤ b) F m sz s.tm s.st a w → MarksR m s.ds D →
      (∀ a' w' F' m' D', Rel O w0 F0 m0 D' (fun b => s1.nx ≤ b) F' m' sz s1.tm s1.st a' w' → MarksR m' s1.ds D' → QQ (exOf e1) a' w') → c.wpIn FF 0 P QQ a w)
    {n : Nat} {s : XS} (h : xloop f sz n s = some (e, s')) {F : FZ} {m : MP} {D : List Deferred} {a : Act} {w : World} (hR : Rel O w0 F0 m0 D (fun b => s.nx ≤ b) F m sz s.tm s.st a w) (hM : MarksR m s.ds D) : (Code.loop c).wpIn FF 0 P QQ a w := by
  refine wpIn_loop_ghost (fun k a w => ∃ s F m D, xloop f sz k s = some (e, s') ∧ Rel O w0 F0 m0 D (fun b => s.nx ≤ b) F m sz s.tm s.st a w ∧ MarksR m s.ds D) n ⟨s, F, m, D, h, hR, hM⟩ ?_
  rintro k a w ⟨s, F, m, D, h, hR, hM⟩
  cases k with
  | zero => cases h
  | succ k =>
    simp only [xloop] at h
    have hR' : Rel O w0 F0 m0 D (fun b => (tidy sz s).nx ≤ b) F m sz (tidy sz s).tm (tidy sz s).st a w := hR.tidy sz s.b0
    split at h
    · next s1 h1 => exact hf _ _ _ h1 _ F m D a w hR' hM fun a' w' F' m' D' r1 r2 => ⟨k, Nat.lt_succ_self k, s1, F', m', D', h, r1, r2⟩
    · next i s1 h1 => cases h; exact hf _ _ _ h1 _ F m D a w hR' hM fun a' w' F' m' D' r1 r2 => hq a' w' F' m' D' r1 r2
    · next s1 h1 => cases h; exact hf _ _ _ h1 _ F m D a w hR' hM fun a' w' F' m' D' r1 r2 => hq a' w' F' m' D' r1 r2
    · cases h
end
end Go.Ev
/- The evaluator's runs are the model's: code, with ranges over functions. -/
set_option linter.unusedVariables false
set_option linter.unusedSimpArgs false
namespace Go.Ev
open Go.RowKit

section
variable {P : Program} {H : XH} {X : FuncId → Option (List V → Option V)}

/-- The record of a loop, and what is asked behind the call. -/
theorem range_end {FF : Fence} {O : Nat → Prop} {w0 w1 w2 : World} {F0 : FZ} {M0 : MP} {sz : Nat} {tm : TM} {a a' : Act} {D D' : List Deferred} {U : Nat → Prop} {F2 F3 : FZ} {m2 m3 : MP} {st1 st2 : ST} {nx2 : Nat} {b l c : Nat} {r2 : LoopX} {ds : List Nat}
    {e : AX} {j : Option Code} {QQ : Exit → Act → World → Prop}
    (hR : Rel O w0 F0 M0 D U F2 m2 sz tm st1 a w1) (hk : RelH O w1 F2 m2 nx2 F3 m3 st2 w2) (ha : a'.tmps = a.tmps) (hD : a'.defers = D') (hb : m2 b = some (l, c)) (hl : look st2 b = some (.loop r2)) (hbusy : isBusy r2.state = false) (hM : MarksR m2 ds D')
    (hj : r2.pending = j) (hje : (e = .normal ∧ j = none) ∨ (∃ i, e = .exit i ∧ j = some (.exit i)) ∨ (e = .ret ∧ j = some .ret))
    (hq : ∀ w3 F' m', Rel O w0 F0 M0 D' (fun b => nx2 ≤ b) F' m' sz tm ((b, .loop { r2 with state := .exhausted }) :: st2) a' w3 → (∀ b y, m2 b = some y → m' b = some y) → MarksR m' ds D' → QQ (exOf e) a' w3) {v : Value} :
    rangePost FF 0 P l QQ a' (.returned v) w2 := by
  have h2 := hR.back hk
  have hm3 : m3 b = some (l, c) := hk.pin _ _ hb
  obtain ⟨g', c', lp, q1, q2, q3, q4, q5, q6, q7, q8, q9, q10, q11⟩ := h2.hst b _ hl
  rw [hm3] at q1; cases q1
  have hnb : lp.state ≠ .busy := by
    intro e
    rw [q5] at e
    rw [e] at hbusy
    cases hbusy
  have h3 := h2.putO (x1 := .loop { r2 with state := .exhausted }) hl (by simp) (by simp) hm3 q2 q4 (o := .loop { lp with state := .exhausted }) (by
    intro hkk hnew
    exact ⟨_, _, _, hm3, q2, hnew, q4, rfl, q6, q7, q8, q9, q10, fun i => (q11 i).mono (fun _ _ e => e) (fun _ _ e => e) hkk⟩)
  have h4 : Rel O w0 F0 M0 D' (fun b => nx2 ≤ b) F3 m3 sz tm ((b, .loop { r2 with state := .exhausted }) :: st2) a' (w2.putObj l (.loop { lp with state := .exhausted })) :=
    h3.act (fun i => by rw [ha]; exact h3.htm i) (by rw [ha]; exact h3.hsz) hD
  refine ⟨lp.pending, _, run_endLoop q3 hnb, ?_⟩
  have hfin := hq _ F3 m3 h4 hk.pin (hM.mono hk.pin)
  have hp : lp.pending = j := q6.trans hj
  generalize (w2.putObj l (.loop { lp with state := .exhausted })) = w3 at hfin ⊢
  rw [hp]
  rcases hje with ⟨rfl, rfl⟩ | ⟨i, rfl, rfl⟩ | ⟨rfl, rfl⟩
  · exact hfin
  · exact wpIn_exit hfin
  · exact wpIn_ret hfin

theorem xcode_sound (hH : HOK P H) (hX : CtxOK P (ctxX X)) (hmix : P.follows .mixedOrders = true) {FF : Fence} (hW : Wide FF) {fuel sz : Nat} {rd : Option Nat} : ∀ (c : Code) (s : XS) (e : AX) (s' : XS), xcode P H X fuel sz rd c s = some (e, s') →
    ∀ (O : Nat → Prop) (QQ : Exit → Act → World → Prop) (w0 : World) (F0 F : FZ) (M0 m : MP) (D : List Deferred) (a : Act) (w : World), Rel O w0 F0 M0 D (fun b => s.nx ≤ b) F m sz s.tm s.st a w → MarksR m s.ds D → RdOK m FF rd →
      (∀ a' w' F' m' D', Rel O w0 F0 M0 D' (fun b => s'.nx ≤ b) F' m' sz s'.tm s'.st a' w' → (∀ b y, m b = some y → m' b = some y) → MarksR m' s'.ds D' → QQ (exOf e) a' w') → c.wpIn FF 0 P QQ a w
  | .skip, s, e, s', hx, O, QQ, w0, F0, F, M0, m, D, a, w, h, hM, hrd, hq => by cases hx; exact wpIn_skip (hq a w F m D h (fun _ _ e => e) hM)
  | .exit i, s, e, s', hx, O, QQ, w0, F0, F, M0, m, D, a, w, h, hM, hrd, hq => by cases hx; exact wpIn_exit (hq a w F m D h (fun _ _ e => e) hM)
  | .ret, s, e, s', hx, O, QQ, w0, F0, F, M0, m, D, a, w, h, hM, hrd, hq => by cases hx; exact wpIn_ret (hq a w F m D h (fun _ _ e => e) hM)
  | .region id ops false, s, e, s', hx, O, QQ, w0, F0, F, M0, m, D, a, w, h, hM, hrd, hq => by
    simp only [xcode] at hx
    split at hx
    · next tm1 st1 nx1 h1 =>
      cases hx
      refine wpIn_region ?_
      have := xops_sound hH hW (Q := QQ) (w0 := w) (F0 := F) (M0 := m) (D := D) (fun F' m' a' w' hR => hq a' w' F' m' D (h.comp hR) hR.pin (hM.mono hR.pin)) ops.toList 0 s.nx F m s.tm s.st a w rfl h.base h1
      simpa using this
    · cases hx
  | .region id ops true, s, e, s', hx, O, QQ, w0, F0, F, M0, m, D, a, w, h, hM, hrd, hq => by
    simp only [xcode] at hx
    split at hx
    · cases hx
    · next hah =>
      split at hx
      · next tm1 st1 h1 =>
        rw [kN_eq] at hx
        cases hx
        exact evOpsD_sound hX hW hmix hah h.base (xopsD_ev (K := fun tm st => tm = tm1 ∧ st = st1) ⟨rfl, rfl⟩ _ _ _ _ _ h1) fun F' m' tm' st' a' w' hR hK => by
          obtain ⟨rfl, rfl⟩ := hK
          exact hq a' w' F' m' D (h.comp hR) hR.pin (hM.mono hR.pin)
      · unfold xlast at hx
        split at hx
        · cases hx
        · next M hsz =>
          split at hx
          · cases hx
          · next hcov =>
            split at hx
            · cases hx
            · next o ho =>
              split at hx
              · cases hx
              · next hg =>
                split at hx
                · cases hx
                · next hd =>
                  split at hx
                  · cases hx
                  · next tm1 st1 h1 =>
                    rw [kN_eq] at hx
                    split at hx
                    · next v st' top' hxop =>
                      cases hx
                      refine evOpsL_sound hsz hcov hX hW hmix hah h.base (xopsD_ev (K := fun tm st => tm = tm1 ∧ st = st1) ⟨rfl, rfl⟩ _ _ _ _ _ h1) fun F' m' tm' st' a' w' next hR hK hnext => ?_
                      obtain ⟨rfl, rfl⟩ := hK
                      have ho' : ops[M]? = some o := by simpa using ho
                      unfold wpOpIn
                      simp only [ho']
                      have hw : Region.wanted o (yielded ops a'.tmps) = true := by simp [Region.wanted, hg]
                      rw [if_pos hw]
                      refine xop_ok hH o hR hd hxop (fun F2 m2 a2 w2 hR2 => hnext a2 w2 ?_) FF hW
                      exact hq a2 w2 F2 m2 D (h.comp hR2) hR2.pin (hM.mono hR2.pin)
                    · cases hx
  | .seq x y, s, e, s', hx, O, QQ, w0, F0, F, M0, m, D, a, w, h, hM, hrd, hq => by
    simp only [xcode] at hx
    refine wpIn_seq ?_
    split at hx
    · next s1 h1 =>
      refine xcode_sound hH hX hmix hW x s _ s1 h1 O _ w0 F0 F M0 m D a w h hM hrd fun a1 w1 F1 m1 D1 r1 r2 r3 => ?_
      exact xcode_sound hH hX hmix hW y s1 e s' hx O QQ w0 F0 F1 M0 m1 D1 a1 w1 r1 r3 (hrd.mono r2) fun a2 w2 F2 m2 D2 q1 q2 q3 => hq a2 w2 F2 m2 D2 q1 (fun b y e => q2 b y (r2 b y e)) q3
    · next i s1 h1 => cases hx; exact xcode_sound hH hX hmix hW x s _ _ h1 O _ w0 F0 F M0 m D a w h hM hrd fun a1 w1 F1 m1 D1 r1 r2 r3 => hq a1 w1 F1 m1 D1 r1 r2 r3
    · next s1 h1 => cases hx; exact xcode_sound hH hX hmix hW x s _ _ h1 O _ w0 F0 F M0 m D a w h hM hrd fun a1 w1 F1 m1 D1 r1 r2 r3 => hq a1 w1 F1 m1 D1 r1 r2 r3
    · cases hx
  | .cond c x y, s, e, s', hx, O, QQ, w0, F0, F, M0, m, D, a, w, h, hM, hrd, hq => by
    simp only [xcode] at hx
    have he := h.ev c
    split at hx
    · next hb =>
      rw [hb] at he
      exact wpIn_cond (t := true) he (xcode_sound hH hX hmix hW x s e s' hx O QQ w0 F0 F M0 m D a w h hM hrd hq)
    · next hb =>
      rw [hb] at he
      exact wpIn_cond (t := false) he (xcode_sound hH hX hmix hW y s e s' hx O QQ w0 F0 F M0 m D a w h hM hrd hq)
    · cases hx
  | .block i c, s, e, s', hx, O, QQ, w0, F0, F, M0, m, D, a, w, h, hM, hrd, hq => by
    simp only [xcode] at hx
    refine wpIn_block ?_
    split at hx
    · next j s1 h1 =>
      split at hx
      · next hj =>
        cases hx
        have := Nat.eq_of_beq_eq_true hj
        subst this
        refine xcode_sound hH hX hmix hW c s _ _ h1 O _ w0 F0 F M0 m D a w h hM hrd fun a1 w1 F1 m1 D1 r1 r2 r3 => ?_
        show Exit.inBlock j QQ (.exit j) a1 w1
        simp only [Exit.inBlock, if_true]
        exact hq a1 w1 F1 m1 D1 r1 r2 r3
      · next hj =>
        cases hx
        have hne : ¬ j = i := by rintro rfl; simp at hj
        refine xcode_sound hH hX hmix hW c s _ _ h1 O _ w0 F0 F M0 m D a w h hM hrd fun a1 w1 F1 m1 D1 r1 r2 r3 => ?_
        show Exit.inBlock i QQ (.exit j) a1 w1
        simp only [Exit.inBlock, if_neg hne]
        exact hq a1 w1 F1 m1 D1 r1 r2 r3
    · next s1 h1 => cases hx; exact xcode_sound hH hX hmix hW c s _ _ h1 O _ w0 F0 F M0 m D a w h hM hrd fun a1 w1 F1 m1 D1 r1 r2 r3 => hq a1 w1 F1 m1 D1 r1 r2 r3
    · next s1 h1 => cases hx; exact xcode_sound hH hX hmix hW c s _ _ h1 O _ w0 F0 F M0 m D a w h hM hrd fun a1 w1 F1 m1 D1 r1 r2 r3 => hq a1 w1 F1 m1 D1 r1 r2 r3
    · cases hx
  | .loop c, s, e, s', hx, O, QQ, w0, F0, F, M0, m, D, a, w, h, hM, hrd, hq => by
    simp only [xcode] at hx
    refine xloop_sound (w0 := w) (F0 := F) (m0 := m) (fun a' w' F' m' D' r1 r2 => hq a' w' F' m' D' (h.comp r1) r1.pin r2) ?_ hx h.base hM
    intro s1 e1 s2 h1 QQ1 F1 m1 D1 a1 w1 hR1 hM1 hq1
    exact xcode_sound hH hX hmix hW c s1 e1 s2 h1 O QQ1 w F F1 m m1 D1 a1 w1 hR1 hM1 (hrd.mono hR1.pin) fun a' w' F' m' D' r1 r2 r3 => hq1 a' w' F' m' D' r1 r3
  | .rangeFunc f ps assign body, s, e, s', hx, O, QQ, w0, F0, F, M0, m, D, a, w, h, hM, hrd, hq => by
    simp only [xcode] at hx
    split at hx
    · cases hx
    · next s1 hs1 =>
      have hf := h.ev f
      split at hx
      · next g caps hg =>
        rw [hg] at hf
        obtain ⟨arr, hf', hl, hv⟩ := hf
        split at hx
        · next rr st2 nx2 hcall =>
          obtain ⟨henter, hok⟩ := hH _ _ _ _ _ _ _ hcall
          split at hx
          · next r2 hr2 =>
            split at hx
            · cases hx
            · next hbusy =>
              have hje : ∃ j, r2.pending = j ∧ ((e = .normal ∧ j = none) ∨ (∃ i, e = .exit i ∧ j = some (.exit i)) ∨ (e = .ret ∧ j = some .ret)) ∧ s' = ⟨s.tm, s1.ds, (s.nx, .loop { r2 with state := .exhausted }) :: st2, nx2, s.b0⟩ := by
                split at hx
                · next hp => cases hx; exact ⟨_, hp, .inl ⟨rfl, rfl⟩, rfl⟩
                · next i hp => cases hx; exact ⟨_, hp, .inr (.inl ⟨i, rfl, rfl⟩), rfl⟩
                · next hp => cases hx; exact ⟨_, hp, .inr (.inr ⟨rfl, rfl⟩), rfl⟩
                · cases hx
              obtain ⟨j, hj, hje, rfl⟩ := hje
              refine wpIn_rangeFunc fun fn _ => ?_
              have ha : a.defers = D := h.hde
              -- the call
              have hres : ∀ (l : Nat) (w1 : World), (resolve a.eval (rangeCall f l) 0).run P w1 = .ok { target := .fn (.func g) arr, args := #[.func (.yield l) #[] #[]] } w1 := by
                intro l w1
                have e : (rangeCall f l).args.map a.eval = #[.func (.yield l) #[] #[]] := by simp [rangeCall, Act.eval]
                show (Deferred.ofValue (a.eval f) ((rangeCall f l).args.map a.eval)).run P w1 = _
                rw [hf', e]
                rfl
              have hinv : ∀ (l : Nat) (w1 : World), (invoke (.fn (.func g) arr) #[.func (.yield l) #[] #[]]).run P w1 = .ok (.enter g (.func (.yield l) #[] #[] :: arr.toList).toArray) w1 := by
                intro l w1
                simp only [invoke]
                have e : (#[.func (.yield l) #[] #[]] ++ arr : Array Value) = (.func (.yield l) #[] #[] :: arr.toList).toArray := by
                  apply Array.ext'
                  simp
                rw [e, henter]
              have hargs : ∀ (F1 : FZ) (m1 : MP) (w1 : World) (l c : Nat), m1 s.nx = some (l, c) → (∀ b y, m b = some y → m1 b = some y) → (∀ g j, F g j → F1 g j) → Keeps F w.heap w1.heap → RVl m1 F1 w1.heap ([.yld s.nx] ++ caps) (.func (.yield l) #[] #[] :: arr.toList) := by
                intro F1 m1 w1 l c hb hmm hff hkk
                refine ⟨by simp [hl], fun i c' x hc hx => ?_⟩
                cases i with
                | zero => simp at hc hx; subst hc hx; exact ⟨l, c, hb, rfl⟩
                | succ i =>
                  simp at hc hx
                  exact RV.of_RP ((hv i c' x hc (by simpa using hx)).mono hmm hff hkk)
              cases rd with
              | none =>
                have hro : FF.round = none := hrd
                cases hs1
                obtain ⟨hA, hmA, hkA⟩ := h.base.newO (id := s.nx + 1) (cap := 0) (by show s.nx ≤ s.nx + 1; omega) (o := .deferred (some [])) (x := .mark true) (by simp) (by
                  intro m' hm' hid hk hh hno
                  exact ⟨_, _, hid, h.own_new, hh, hno⟩)
                obtain ⟨hB, hmB, hkB⟩ := hA.newO (id := s.nx) (cap := 0) (by constructor <;> first | omega | (show s.nx ≤ s.nx; omega)) (o := .loop { state := .ready, pending := none, fn, tmps := a.tmps, params := ps, assign, body, defers := w.heap.size })
                  (x := .loop ⟨s.tm, sz, ps, assign, body, .ready, none⟩) (by simp) (by
                  intro m' hm' hid hk hh hno
                  exact ⟨_, _, _, hid, hA.own_new, hh, hno, rfl, rfl, rfl, rfl, rfl, h.hsz, fun i => (hA.htm i).mono hm' (fun _ _ e => e) hk⟩)
                have hsize : (w.alloc (.deferred (some []))).heap.size = w.heap.size + 1 := by simp
                refine ⟨w.heap.size + 1, [{ target := .collected w.heap.size, args := #[] }], _, _, _, g, _, _, by rw [hro]; exact run_enterLoop_outer fn a.tmps ps assign body, hres _ _, fun f' _ => hW.fn f', hinv _ _, fun e => (by rw [hW.dep] at e; cases e), callsIn_of_calls hW ?_⟩
                refine (hok O _ _ _ _ (hB.weakU (U' := fun b => s.nx + 2 ≤ b) fun b hb => ⟨⟨show s.nx ≤ b by omega, by omega⟩, by omega⟩).toH (hargs _ _ _ (w.heap.size + 1) 0 (by simp [hsize]) (fun b y e => hmB b y (hmA b y e)) (fun _ _ e => e) (fun g' j' e => (hkB g' j' e).trans (hkA g' j' e)))).mono ?_
                rintro en w2 ⟨v, F3, m3, rfl, hk, _⟩
                refine range_end (a' := { a with defers := [{ target := .collected w.heap.size, args := #[] }] ++ a.defers }) (D' := { target := .collected w.heap.size, args := #[] } :: D) (ds := (s.nx + 1) :: s.ds) (h.comp hB) hk rfl (by rw [← ha]; rfl) (b := s.nx) (c := 0) (by simp [hsize]) hr2 hbusy ?_ hj hje fun w3 F' m' r1 r2' r3' => ?_
                · exact ⟨⟨w.heap.size, 0, by simp, rfl⟩, hM.mono fun b y e => hmB b y (hmA b y e)⟩
                · exact hq _ w3 F' m' _ r1 (fun b y e => r2' b y (hmB b y (hmA b y e))) r3'
              | some b =>
                obtain ⟨l0, c0, hro, hb0⟩ := hrd
                simp only [xenter] at hs1
                split at hs1
                · next r0 hr0 =>
                  cases hs1
                  obtain ⟨g0, c0', lp0, z1, z2, z3, _⟩ := h.hst b _ hr0
                  rw [hb0] at z1; cases z1
                  obtain ⟨hB, hmB, hkB⟩ := h.base.newO (id := s.nx) (cap := 0) (by show s.nx ≤ s.nx; omega) (o := .loop { state := .ready, pending := none, fn, tmps := a.tmps, params := ps, assign, body, defers := lp0.defers })
                    (x := .loop ⟨s.tm, sz, ps, assign, body, .ready, none⟩) (by simp) (by
                    intro m' hm' hid hk hh hno
                    exact ⟨_, _, _, hid, h.own_new, hh, hno, rfl, rfl, rfl, rfl, rfl, h.hsz, fun i => (h.htm i).mono hm' (fun _ _ e => e) hk⟩)
                  refine ⟨w.heap.size, [], _, _, _, g, _, _, by rw [hro]; exact run_enterLoop_inner z3 fn a.tmps ps assign body, hres _ _, fun f' _ => hW.fn f', hinv _ _, fun e => (by rw [hW.dep] at e; cases e), callsIn_of_calls hW ?_⟩
                  refine (hok O _ _ _ _ (hB.weakU (U' := fun b => s.nx + 1 ≤ b) fun b hb => ⟨show s.nx ≤ b by omega, by omega⟩).toH (hargs _ _ _ w.heap.size 0 (by simp) hmB (fun _ _ e => e) hkB)).mono ?_
                  rintro en w2 ⟨v, F3, m3, rfl, hk, _⟩
                  refine range_end (a' := { a with defers := [] ++ a.defers }) (D' := D) (ds := s.ds) (h.comp hB) hk rfl (by rw [← ha]; rfl) (b := s.nx) (c := 0) (by simp) hr2 hbusy (hM.mono hmB) hj hje fun w3 F' m' r1 r2' r3' => ?_
                  exact hq _ w3 F' m' _ r1 (fun b y e => r2' b y (hmB b y e)) r3'
                · cases hs1
          · cases hx
        · cases hx
      · cases hx
  | .scope _, _, _, _, hx, _, _, _, _, _, _, _, _, _, _, _, _, _, _ => by cases hx
  | .label _, _, _, _, hx, _, _, _, _, _, _, _, _, _, _, _, _, _, _ => by cases hx
  | .goto _, _, _, _, hx, _, _, _, _, _, _, _, _, _, _, _, _, _, _ => by cases hx
  | .refuse _, _, _, _, hx, _, _, _, _, _, _, _, _, _, _, _, _, _, _ => by cases hx
end
end Go.Ev
/- The evaluator's runs are the model's: functions, rounds. -/
set_option linter.unusedVariables false
set_option linter.unusedSimpArgs false
namespace Go.Ev
open Go.RowKit

section
variable {P : Program} {H : XH} {X : FuncId → Option (List V → Option V)}

/-- The marks are come to. -/
theorem leaves_ok {fn : Func} {tmps : Array Value} {R : Ending → World → Prop} {O : Nat → Prop} {w0 : World} {F0 : FZ} {M0 : MP} {D0 : List Deferred} {U : Nat → Prop} {F : FZ} {m : MP} {sz : Nat} {tm : TM} {a : Act} :
    ∀ (ds : List Nat) (D : List Deferred) (st st1 : ST) (w : World), xmarks ds st = some st1 → Rel O w0 F0 M0 D0 U F m sz tm st a w → MarksR m ds D →
      (∀ w1, Rel O w0 F0 M0 D0 U F m sz tm st1 a w1 → ∃ v, (results fn tmps).run P w1 = .ok v w1 ∧ R (.returned v) w1) → LeavesInM Fence.wide 0 P fn tmps R D .returning w
  | [], [], st, st1, w, hx, h, _, hq => by cases hx; exact hq w h
  | [], _ :: _, _, _, _, _, _, hM, _ => hM.elim
  | _ :: _, [], _, _, _, _, _, hM, _ => hM.elim
  | b :: ds, d :: D, st, st1, w, hx, h, ⟨⟨g, c, hb, hd⟩, hM⟩, hq => by
    simp only [xmarks] at hx
    split at hx
    · next hl =>
      obtain ⟨g', c', q1, q2, q3, q4⟩ := h.hst b _ hl
      rw [hb] at q1; cases q1
      have h2 := h.putO (x1 := .mark false) hl (by simp) (by simp) hb q2 q4 (o := .deferred none) (fun _ hnew => ⟨_, _, hb, q2, hnew, q4⟩)
      refine ⟨by simp, .inl ⟨g, _, by rw [hd], run_takeDeferred q3, leaves_ok ds D _ st1 _ hx h2 hM hq⟩⟩
    · cases hx

theorem xres_ok {fn : Func} {O : Nat → Prop} {w0 : World} {F0 : FZ} {M0 : MP} {D : List Deferred} {U : Nat → Prop} {F : FZ} {m : MP} {sz : Nat} {tm : TM} {st st' : ST} {a : Act} {w : World} {r : V}
    (h : Rel O w0 F0 M0 D U F m sz tm st a w) (hx : xres P fn tm st = some (r, st')) : ∃ v F', (results fn a.tmps).run P w = .ok v w ∧ Rel O w0 F0 M0 D U F' m sz tm st' a w ∧ RV m F' w.heap r v := by
  unfold xres at hx
  split at hx
  · next t ht =>
    cases hx
    refine ⟨_, F, results_eq fn a.tmps w [a.tmps.getD t undef] (by rw [ht]; simp [List.mapM_cons, resOne]), h, ?_⟩
    exact h.htm t
  · next p t ht =>
    have hg : (loadR P t (ev tm (.tmp p))).go st (fun v s => v = r ∧ s = st') := RM.x_go _ _ _ _ hx ⟨rfl, rfl⟩
    obtain ⟨F0', st0, c0, v0, h0, e0, hrun, hv0, hc, hs⟩ := load_sound (P := P) h hg
    subst hc hs
    have hld : (resOne a.tmps (.cell p t)).run P w = .ok v0 w := by
      have e : a.eval (.tmp p) = a.tmps.getD p undef := rfl
      rw [e] at hrun
      simp only [resOne]
      cases hp : a.tmps.getD p undef with
      | pointer q =>
        rw [hp] at hrun
        cases q with
        | some q => simpa [asAddr, Instr.loadAt, Instr.sureAddr] using hrun
        | none => simp [Instr.loadAt, Instr.sureAddr, Result.andThen] at hrun
      | _ => rw [hp] at hrun; simp [Instr.loadAt, Instr.sureAddr, Result.andThen] at hrun
    exact ⟨_, F0', results_eq fn a.tmps w [v0] (by rw [ht]; simp [List.mapM_cons, hld]), h0, hv0⟩
  · have hg : (resR P tm fn.results.toList []).go st (fun v s => v = r ∧ s = st') := RM.x_go _ _ _ _ hx ⟨rfl, rfl⟩
    obtain ⟨F1, st1, vs1, c1, r1, r2, r3, r4, r5⟩ := resR_sound fn.results.toList [] [] F st h hg rfl (by simp)
    subst r4 r5
    exact ⟨_, F1, results_eq fn a.tmps w vs1 r2, r1, RV.of_RC r3⟩

theorem xfn_ok (hH : HOK P H) (hX : CtxOK P (ctxX X)) (hmix : P.follows .mixedOrders = true) {g : FuncId} {fn : Func} {c : Code} (hf : P.funcs[g]? = some fn) (hb : fn.body = some c) {fuel : Nat} {args : List V} {st : ST} {top : Nat} {r : V} {st' : ST} {top' : Nat}
    (hx : xfn P H X fuel fn c args st top = some (r, st', top')) : FnOK P g args st top r st' top' := by
  intro O F m w vs h hv
  unfold xfn at hx
  split at hx
  · cases hx
  · next hle =>
    have hlen : args.length ≤ fn.ntmps := Nat.le_of_ble_eq_true hle
    split at hx
    · cases hx
    · cases hx
    · next e s hne hc =>
      split at hx
      · cases hx
      · next st1 hm =>
        split at hx
        · cases hx
        · next r1 st2 hr =>
          rw [kV0_eq] at hx
          cases hx
          refine callsIn_wide.1 (callsIn_of_wp_marks (n := 0) hf hb trivial ?_)
          have hR0 : Rel O w F m [] (fun b => top ≤ b) F m fn.ntmps (startT args) st { tmps := vs.toArray ++ Array.replicate (fn.ntmps - vs.toArray.size) undef, defers := [] } w := by
            refine h.act (fun i => ?_) (by have := hv.1; simp; omega) rfl
            have e : look (startT args) i = args[i]? := by
              unfold startT
              rw [List.range_eq_range', look_start args 0 i]
              simp
            rw [e]
            cases hi : args[i]? with
            | none => exact trivial
            | some c =>
              have hl := hv.1
              have hil : i < args.length := (List.getElem?_eq_some_iff.1 hi).1
              have hx : vs[i]? = some (vs[i]'(by omega)) := List.getElem?_eq_getElem (by omega)
              have := hv.2 i c _ hi hx
              simp only [Option.getD_some]
              have e2 : (vs.toArray ++ Array.replicate (fn.ntmps - vs.toArray.size) undef).getD i undef = vs[i]'(by omega) := by
                rw [Array.getD_eq_getD_getElem?, Array.getElem?_append_left (by simp; omega)]
                simp [hx]
              rw [e2]
              exact this
          have hR := hR0.sent
          refine xcode_sound hH hX hmix wide_wide c ⟨startT args, [], (top, .dead) :: st, top + 1, top⟩ e s hc O _ w F F m m [] _ w hR trivial rfl fun a' w' F' m' D' r1' r2' r3' => ?_
          have fin : LeavesInM Fence.wide 0 P fn a'.tmps (After O w F m (sweep top r st2) s.nx r) a'.defers .returning w' := by
            rw [r1'.hde]
            refine leaves_ok s.ds D' s.st st1 w' hm r1' r3' fun w1 hR1 => ?_
            obtain ⟨v, F2, hrun, hR2, hv2⟩ := xres_ok hR1 hr
            exact ⟨v, hrun, v, F2, m', rfl, (hR2.sweep _ _).heap, hv2⟩
          cases e with
          | normal => exact fin
          | ret => exact fin
          | exit i => exact absurd rfl (hne i)

theorem foldl_put {m : MP} {F : FZ} {Hp : Array Obj} {sz : Nat} : ∀ (l : List (Tmp × V)) (vs : List (Tmp × Value)) (tm : TM) (tmps : Array Value), l.length = vs.length → (∀ (i : Nat) (p : Tmp × V) (q : Tmp × Value), l[i]? = some p → vs[i]? = some q → p.1 = q.1 ∧ p.1 < sz ∧ RV m F Hp p.2 q.2) →
    tmps.size = sz → (∀ i, RV m F Hp ((look tm i).getD .top) (tmps.getD i undef)) →
    (vs.foldl (fun t p => t.setIfInBounds p.1 p.2) tmps).size = sz ∧ ∀ i, RV m F Hp ((look (l.foldl (fun t p => p :: t) tm) i).getD .top) ((vs.foldl (fun t p => t.setIfInBounds p.1 p.2) tmps).getD i undef)
  | [], [], tm, tmps, _, _, hs, ht => ⟨hs, ht⟩
  | [], _ :: _, _, _, hl, _, _, _ => by simp at hl
  | _ :: _, [], _, _, hl, _, _, _ => by simp at hl
  | p :: l, q :: vs, tm, tmps, hl, hp, hs, ht => by
    obtain ⟨h1, h2, h3⟩ := hp 0 p q rfl rfl
    obtain ⟨p1, p2⟩ := p
    obtain ⟨q1, q2⟩ := q
    simp only at h1 h2 h3
    subst h1
    refine foldl_put l vs ((p1, p2) :: tm) (tmps.setIfInBounds p1 q2) (by simpa using hl) (fun i p q e1 e2 => hp (i + 1) p q (by simpa using e1) (by simpa using e2)) (by simpa using hs) fun i => ?_
    rw [look_cons]
    by_cases e : p1 = i
    · subst e
      have : (tmps.setIfInBounds p1 q2).getD p1 undef = q2 := by simp [Array.getD_eq_getD_getElem?, hs, h2]
      rw [this, if_pos rfl]
      exact h3
    · rw [if_neg e]
      have := ht i
      simpa [Array.getD_eq_getD_getElem?, Array.getElem?_setIfInBounds, e] using this

theorem wide_round {FF : Fence} (hW : Wide FF) (l : Nat) : Wide (FF.inRound l) := ⟨hW.fn, hW.dep, hW.al⟩

theorem isReady_eq {s : LoopState} (h : isReady s = true) : s = .ready := by cases s <;> first | rfl | cases h

theorem xround_ok (hH : HOK P H) (hX : CtxOK P (ctxX X)) (hmix : P.follows .mixedOrders = true) {fuel b : Nat} {args : List V} {st : ST} {top : Nat} {r : V} {st' : ST} {top' : Nat}
    (hx : xround P H X fuel b args st top = some (r, st', top')) : YldOK P b args st top r st' top' := by
  intro O F m w vs h hv g c hm
  unfold xround at hx
  split at hx
  · next r0 hl0 =>
    split at hx
    · next hrd =>
      split at hx
      · cases hx
      · next hlen =>
        rw [Bool.and_eq_true] at hlen
        have hn : args.length = r0.ps.size := Nat.eq_of_beq_eq_true hlen.1
        obtain ⟨g', c', lp, q1, q2, q3, q4, q5, q6, q7, q8, q9, q10, q11⟩ := h.hst b _ hl0
        rw [hm] at q1; cases q1
        have hvs : vs.length = lp.params.size := by rw [q7, ← hn, hv.1]
        have hy := run_yield (P := P) (args := vs.toArray) q3 (by simpa using hvs)
        refine ⟨_, _, _, _, hy, fun FF hW => ?_⟩
        split at hx
        · next s1 hassign =>
          split at hx
          · next r1 hl1 =>
            split at hx
            · next hrd1 =>
              split at hx
              · cases hx
              · next e s2 hbody =>
                split at hx
                · next r2 hl2 =>
                  have hfold : (lp.params.zip vs.toArray).foldl (fun tmps (t, a) => tmps.setIfInBounds t a) lp.tmps = (r0.ps.toList.zip vs).foldl (fun t p => t.setIfInBounds p.1 p.2) lp.tmps := by
                    rw [q7, ← Array.foldl_toList, Array.toList_zip]
                  have hput := foldl_put (m := m) (F := F) (Hp := w.heap) (sz := r0.sz) (r0.ps.toList.zip args) (r0.ps.toList.zip vs) r0.tm lp.tmps (by simp [hv.1]) (by
                    intro i p q e1 e2
                    rw [List.getElem?_zip_eq_some] at e1 e2
                    have : p.1 = q.1 := by have := e1.1.symm.trans e2.1; simpa using this
                    refine ⟨this, ?_, hv.2 i _ _ e1.2 e2.2⟩
                    have := List.all_eq_true.1 hlen.2 p.1 (List.mem_of_getElem? e1.1)
                    exact Nat.le_of_ble_eq_true this) q10 q11
                  refine roundIn_of_wpIn (hW.fn _) ?_
                  rw [hfold]
                  have hR0 : Rel O w F m [] (fun b => top ≤ b) F m r0.sz ((r0.ps.toList.zip args).foldl (fun t p => p :: t) r0.tm) st { tmps := (r0.ps.toList.zip vs).foldl (fun t p => t.setIfInBounds p.1 p.2) lp.tmps, defers := [] } w :=
                    h.act hput.2 hput.1 rfl
                  have hR := hR0.sent
                  have hrdok : RdOK m (FF.inRound g) (some b) := ⟨g, c, rfl, hm⟩
                  rw [q8]
                  refine xcode_sound hH hX hmix (wide_round hW g) r0.assign _ _ s1 hassign O _ w F F m m [] _ w hR trivial hrdok fun a1 w1 F1 m1 D1 z1 z2 z3 => ?_
                  -- the body
                  have hm1 := z2 _ _ hm
                  obtain ⟨g1, c1, lp1, y1, y2, y3, y4, y5, y6, y7, y8, y9, y10, y11⟩ := z1.hst b _ hl1
                  rw [hm1] at y1; cases y1
                  have hB := z1.putO (x1 := .loop { r1 with state := .busy }) hl1 (by simp) (by simp) hm1 y2 y4 (o := .loop { lp1 with state := .busy }) (fun hkk hnew =>
                    ⟨_, _, _, hm1, y2, hnew, y4, rfl, y6, y7, y8, y9, y10, fun i => (y11 i).mono (fun _ _ e => e) (fun _ _ e => e) hkk⟩)
                  refine ⟨_, run_beginRound y3 (by rw [y5]; exact isReady_eq hrd1), ?_⟩
                  rw [q9]
                  refine xcode_sound hH hX hmix (wide_round hW g) r0.body ⟨s1.tm, s1.ds, _, s1.nx, s1.b0⟩ e s2 hbody O _ w F F1 m m1 D1 _ _ hB z3 (hrdok.mono z2) fun a2 w2 F2 m2 D2 x1 x2 x3 => ?_
                  have hm2 := x2 _ _ hm1
                  obtain ⟨g2, c2, lp2, u1, u2, u3, u4, u5, u6, u7, u8, u9, u10, u11⟩ := x1.hst b _ hl2
                  rw [hm2] at u1; cases u1
                  have fin : ∀ (j : Option Code) (ls : LoopState), ls = (if j.isNone then .ready else .done) → Rel O w F m D2 (fun b => s2.nx ≤ b) F2 m2 r0.sz s2.tm ((b, .loop { r2 with state := ls, pending := j }) :: s2.st) a2 (w2.putObj g (.loop { lp2 with state := (if j.isNone then .ready else .done), pending := j })) := by
                    intro j ls hls
                    subst hls
                    exact x1.putO hl2 (by simp) (by simp) hm2 u2 u4 (fun hkk hnew =>
                      ⟨_, _, _, hm2, u2, hnew, u4, rfl, rfl, u7, u8, u9, u10, fun i => (u11 i).mono (fun _ _ e => e) (fun _ _ e => e) hkk⟩)
                  cases e with
                  | normal =>
                    cases hx
                    exact ⟨_, _, run_endRound none u3, _, F2, m2, rfl, ((fin none .ready rfl).sweep _ _).heap, rfl⟩
                  | exit i =>
                    cases hx
                    exact ⟨_, _, run_endRound (some (.exit i)) u3, _, F2, m2, rfl, ((fin (some (.exit i)) .done rfl).sweep _ _).heap, rfl⟩
                  | ret =>
                    cases hx
                    exact ⟨_, _, run_endRound (some .ret) u3, _, F2, m2, rfl, ((fin (some .ret) .done rfl).sweep _ _).heap, rfl⟩
                · cases hx
            · cases hx
          · cases hx
        · cases hx
    · cases hx
  · cases hx
end

section
variable {P : Program} {G : XG}

theorem soundV_x {H : XH} (hH : HOK P H) (g : FuncId) : SoundV P g (conX (xpure P H g)) := by
  rintro ⟨args, r⟩ F w vs hF hv hok
  have hok : xpure P H g args = some r := hok
  unfold xpure at hok
  split at hok
  · next r1 st nx h1 =>
    obtain ⟨_, hfn⟩ := hH _ _ _ _ _ _ _ h1
    have hR : RelH (fun k => w.heap.size ≤ k) w F (fun _ => none) 0 F (fun _ => none) [] w :=
      { htm := fun i => trivial, hsz := rfl, hde := rfl, nst := ⟨_, NOK.nil⟩, hst := fun b x hx => by simp at hx, inj := fun b b' g c c' _ _ hm => (by cases hm), fresh := fun b _ => ⟨rfl, rfl⟩, pin := fun b y e => (by cases e), keep := Keeps.refl _ _, f0 := fun _ _ e => e, f1 := fun _ _ e => .inl e, f2 := hF, mlt := fun b g c hm => (by cases hm), below := Own.refl _ _, hb := fun _ e => e }
    have hv' : RVl (fun _ => none) F w.heap (args ++ []) vs := by
      rw [List.append_nil]
      have := RCs_iff.1 hv
      exact ⟨this.1, fun i c x hc hx => RV.of_RC (this.2 i c x hc hx).1⟩
    refine (hfn _ F _ w vs hR hv').mono ?_
    rintro e w' ⟨v, F', m', rfl, hR', hr⟩
    cases hz : (fz 4 r1 .ret).x st with
    | none => rw [hz] at hok; cases hok
    | some z =>
      obtain ⟨c, st2⟩ := z
      rw [hz] at hok
      cases hok
      obtain ⟨F1, st1, c1, k1, k2, k3, k4, _⟩ := fz_sound 4 r1 v .ret st F' (fun c' s => c' = c) hR' hr (RM.x_go _ _ _ _ hz rfl)
      have k4 : c1 = c := k4
      subst k4
      exact ⟨v, F1, rfl, k1.below.below, k1.f0, k1.f1, k1.f2, k3⟩
  · cases hok

/-- The functions that are followed are the program's. -/
def GOK (P : Program) (G : XG) : Prop := ∀ g fn, G g = some fn → P.funcs[g]? = some fn ∧ EntersOK P g

theorem ctx_x (hG : GOK P G) {H : XH} (hH : HOK P H) : CtxOK P (ctxX (xpures P G H)) := by
  intro g c hc
  unfold ctxX xpures at hc
  cases hg : G g with
  | none => simp [hg] at hc
  | some fn =>
    simp [hg] at hc
    subst hc
    exact ⟨soundV_x hH g, (hG g fn hg).2⟩

theorem xcall_ok (hG : GOK P G) (hmix : P.follows .mixedOrders = true) (fuel : Nat) : ∀ n, HOK P (xcall P G fuel n)
  | 0 => fun c avs st top r st' top' h => by cases h
  | n + 1 => by
    intro c avs st top r st' top' h
    have ih := xcall_ok hG hmix fuel n
    simp only [xcall] at h
    split at h
    · next g caps =>
      split at h
      · next fn hg =>
        split at h
        · next code hb =>
          exact ⟨(hG g fn hg).2, xfn_ok ih (ctx_x hG ih) hmix (hG g fn hg).1 hb h⟩
        · cases h
      · cases h
    · next b => exact xround_ok ih (ctx_x hG ih) hmix h
    · cases h

/-- WHAT A RUN OF THE EVALUATOR GIVES IS WHAT THE FUNCTION RETURNS. -/
theorem has_x (hG : GOK P G) (hmix : P.follows .mixedOrders = true) {fuel n : Nat} {f : FuncId} {args : List V} {r : V} (h : xpure P (xcall P G fuel n) f args = some r) (hf : (G f).isSome = true) :
    Has P f { α := Unit, enc := fun _ => args, ok := fun _ => True, res := fun _ => r } := by
  have hH := xcall_ok hG hmix fuel n
  obtain ⟨fn, hfn⟩ := Option.isSome_iff_exists.1 hf
  refine ⟨?_, (hG f fn hfn).2⟩
  show SoundV P f _
  intro x F w vs hF hv _
  exact soundV_x hH f (args, r) F w vs hF hv h

/-- The functions by a list. -/
def xg : List (FuncId × Func) → XG
  | [], _ => none
  | (g, fn) :: l, f => match Nat.beq g f with
    | true => some fn
    | false => xg l f
theorem gok_nil : GOK P (xg []) := fun _ _ h => by cases h
theorem gok_cons {g : FuncId} {fn : Func} {l : List (FuncId × Func)} (hf : P.funcs[g]? = some fn) (hn : (fn.name == "runtime.NumGoroutine") = false) (hb : fn.body.isNone = false) (k : GOK P (xg l)) : GOK P (xg ((g, fn) :: l)) := by
  intro f fn' h
  simp only [xg] at h
  split at h
  · next e => have := Nat.eq_of_beq_eq_true e; subst this; cases h; exact ⟨hf, enters_ok hf hn hb⟩
  · exact k f fn' h
end
end Go.Ev
/- The evaluator over what is not known, in which calls may be followed inline; ranges over functions. -/
set_option linter.unusedVariables false
namespace Go.Ev
open Go.RowKit
noncomputable section

/-- A call that is followed: what is called, its arguments, the boxes, the first new number; what is asked of its result. -/
abbrev WH := V → List V → ST → Nat → (V → ST → Nat → Prop) → Prop

/-- A box that a renaming leaves as it is. -/
def fixX (r : List (Nat × Nat)) : Bx → Prop
  | .loop lp => lp.tm.map (fun p => renV r p.2) = lp.tm.map fun p => some p.2
  | .mark _ => True
  | _ => False

def SubW (r : List (Nat × Nat)) : ST → ST → Prop
  | [], _ => True
  | (b, x) :: l, st => ((∃ b' y, look r b = some b' ∧ renX r x = some y ∧ look st b' = some y) ∨ (decide (look r b = none) && virtB x) = true ∨ (∃ b' cs' cs f, x = .var cs' f ∧ look r b = some b' ∧ look st b' = some (.var cs f) ∧ SubC r cs' cs) ∨
      (look r b = some b ∧ look st b = some x ∧ fixX r x)) ∧ SubW r l st

/-- The state (tm', st', nx') says no more than (tm, st), its boxes renamed; those below pins, the marks and the record of the round are not renamed. -/
def SubF (pins : Nat) (ds : List Nat) (rd : Option Nat) (r : List (Nat × Nat)) (tm' : TM) (st' : ST) (nx' : Nat) (tm : TM) (st : ST) : Prop :=
  SubT r tm' tm ∧ SubW r st' st ∧ ((r.all (fun p => decide (p.1 < nx'))) && st'.all (fun p => decide (p.1 < nx'))) = true ∧ (decide ((r.filter fun p => (look st' p.1).isSome).map (·.2)).Nodup && (List.range pins).all fun i => decide (look r i = some i)) = true ∧
    (ds.all fun i => decide (look r i = some i)) = true ∧ (rd.toList.all fun i => decide (look r i = some i)) = true

section
variable (P : Program) (C : FuncId → Option Con) (H : WH)

def wop (top : Nat) (tm : TM) (st : ST) (op : Op) (K : V → ST → Nat → Prop) : Prop := match op with
  | .call c => match c.callee with
    | .value f => match ev tm f with
      | .fn g caps => match C g with
        | some _ => (opR P C top (ev tm) (.call c)).go st fun v st' => K v st' (top + 1)
        | none => H (.fn g caps) (c.args.toList.map (ev tm)) st top K
      | .yld b => H (.yld b) (c.args.toList.map (ev tm)) st top K
      | _ => False
    | _ => (opA P top (ev tm) (.call c)).go st fun v st' => K v st' (top + 1)
  | op => (opA P top (ev tm) op).go st fun v st' => K v st' (top + 1)

def wops (sz : Nat) (all : List Oper) : List Oper → Nat → TM → ST → (TM → ST → Nat → Prop) → Prop
  | [], top, tm, st, K => K tm st top
  | o :: os, top, tm, st, K => match okDst sz o.dst with
    | false => False
    | true => match o.guard with
      | none => wop P C H top tm st o.op fun v st' top' => wops sz all os top' (putT tm o.dst v) st' K
      | some (j, want) => match (all[j]?).bind (·.dst) with
        | none => False
        | some d => match (look tm d).getD .top with
          | .v (.bool b) => match want with
            | true => br b (wop P C H top tm st o.op fun v st' top' => wops sz all os top' (putT tm o.dst v) st' K) (wops sz all os (top + 1) (putT tm o.dst vU) st K)
            | false => br b (wops sz all os (top + 1) (putT tm o.dst vU) st K) (wop P C H top tm st o.op fun v st' top' => wops sz all os top' (putT tm o.dst v) st' K)
          | .v (.tuple _) => wops sz all os (top + 1) (putT tm o.dst vU) st K
          | _ => False

/-- rd: in a round of this range over a function. -/
def wcode (sz pins : Nat) (rd : Option Nat) : Code → (AX → XS → Prop) → XS → Prop
  | .skip, Q, s => Q .normal s
  | .region _ ops false, Q, s => wops P C H sz ops.toList ops.toList s.nx s.tm s.st fun tm st nx => Q .normal ⟨tm, s.ds, st, nx, s.b0⟩
  | .region _ ops true, Q, s => match aheadB ops.toList with
    | true => evOpsD P C sz ops s.nx ops.toList 0 s.tm s.st [] fun tm st => Q .normal ⟨tm, s.ds, st, s.nx + ops.size, s.b0⟩
    | false => False
  | .seq a b, Q, s => wcode sz pins rd a (fun e s' => match e with
    | .normal => wcode sz pins rd b Q s'
    | e => Q e s') s
  | .cond c x y, Q, s => match ev s.tm c with
    | .v (.bool b) => br b (wcode sz pins rd x Q s) (wcode sz pins rd y Q s)
    | _ => False
  | .block id c, Q, s => wcode sz pins rd c (fun e s' => match e with
    | .exit j => match decide (j = id) with
      | true => Q .normal s'
      | false => Q (.exit j) s'
    | e => Q e s') s
  | .loop c, Q, s => ∃ (α : Type) (mk : α → LS) (μ : α → Nat), (∃ x r, SubF pins s.ds rd r (mk x).tm (mk x).st (mk x).nx s.tm s.st) ∧ ∀ x, wcode sz pins rd c (fun e s' => match e with
    | .normal => s'.ds = s.ds ∧ ∃ y r, SubF pins s.ds rd r (mk y).tm (mk y).st (mk y).nx s'.tm s'.st ∧ μ y < μ x
    | e => ∃ n, s'.nx ≤ n ∧ Q e ⟨s'.tm, s'.ds, s'.st, n, s'.b0⟩) ⟨(mk x).tm, s.ds, (mk x).st, (mk x).nx, s.b0⟩
  | .exit id, Q, s => Q (.exit id) s
  | .ret, Q, s => Q .ret s
  | .rangeFunc f ps assign body, Q, s => match xenter rd (.loop ⟨s.tm, sz, ps, assign, body, .ready, none⟩) s with
    | none => False
    | some s1 => match ev s.tm f with
      | .fn g caps => H (.fn g caps) [.yld s.nx] s1.st s1.nx fun _ st2 nx2 => match look st2 s.nx with
        | some (.loop r2) => match isBusy r2.state with
          | true => False
          | false => match r2.pending with
            | none => Q .normal ⟨s.tm, s1.ds, (s.nx, .loop { r2 with state := .exhausted }) :: st2, nx2, s.b0⟩
            | some (.exit i) => Q (.exit i) ⟨s.tm, s1.ds, (s.nx, .loop { r2 with state := .exhausted }) :: st2, nx2, s.b0⟩
            | some .ret => Q .ret ⟨s.tm, s1.ds, (s.nx, .loop { r2 with state := .exhausted }) :: st2, nx2, s.b0⟩
            | _ => False
        | _ => False
      | _ => False
  | _, _, _ => False

/-- The results: one as it is; several made clean. -/
def wres (fn : Func) (tm : TM) (st : ST) (K : V → ST → Prop) : Prop := match fn.results.toList with
  | [.tmp t] => K ((look tm t).getD .top) st
  | [.cell a t] => (loadR P t (ev tm (.tmp a))).go st K
  | l => (resR P tm l []).go st K

/-- A function is entered. -/
def wfn (fn : Func) (c : Code) (args : List V) (st : ST) (top : Nat) (K : V → ST → Nat → Prop) : Prop :=
  match Nat.ble args.length fn.ntmps with
  | false => False
  | true => wcode P C H fn.ntmps top none c (fun e s => match e with
    | .exit _ => False
    | _ => match xmarks s.ds s.st with
      | none => False
      | some st1 => wres P fn s.tm st1 fun r st2 => K r st2 s.nx) ⟨startT args, [], st, top, top⟩

/-- A round of a range over a function. -/
def wround (b : Nat) (args : List V) (st : ST) (top : Nat) (K : V → ST → Nat → Prop) : Prop := match look st b with
  | some (.loop r) => match isReady r.state with
    | true => match Nat.beq args.length r.ps.size && r.ps.toList.all fun p => Nat.ble (p + 1) r.sz with
      | false => False
      | true => wcode P C H r.sz top (some b) r.assign (fun e s1 => match e with
        | .normal => match look s1.st b with
          | some (.loop r1) => match isReady r1.state with
            | true => wcode P C H r.sz top (some b) r.body (fun e s2 => match look s2.st b with
              | some (.loop r2) => match e with
                | .normal => K (.v (.bool true)) ((b, .loop { r2 with state := .ready, pending := none }) :: s2.st) s2.nx
                | .exit i => K (.v (.bool false)) ((b, .loop { r2 with state := .done, pending := some (.exit i) }) :: s2.st) s2.nx
                | .ret => K (.v (.bool false)) ((b, .loop { r2 with state := .done, pending := some .ret }) :: s2.st) s2.nx
              | _ => False) ⟨s1.tm, s1.ds, (b, .loop { r1 with state := .busy }) :: s1.st, s1.nx, s1.b0⟩
            | false => False
          | _ => False
        | _ => False) ⟨(r.ps.toList.zip args).foldl (fun t p => p :: t) r.tm, [], st, top, top⟩
    | false => False
  | _ => False
end

/-- Calls, to a depth. -/
def wcall (P : Program) (C : FuncId → Option Con) (G : XG) : Nat → WH
  | 0 => fun _ _ _ _ _ => False
  | n + 1 => fun c avs st top K => match c with
    | .fn g caps => match G g with
      | some fn => match fn.body with
        | some code => wfn P C (wcall P C G n) fn code (avs ++ caps) st top K
        | none => False
      | none => False
    | .yld b => wround P C (wcall P C G n) b avs st top K
    | _ => False
end
end Go.Ev
/- The evaluator with inline calls is the model's: states, operations, regions. -/
set_option linter.unusedVariables false
set_option linter.unusedSimpArgs false
namespace Go.Ev
open Go.RowKit

theorem SubW.mem {r : List (Nat × Nat)} : ∀ {st' st : ST}, SubW r st' st → ∀ p ∈ st', (∃ b y, look r p.1 = some b ∧ renX r p.2 = some y ∧ look st b = some y) ∨ (decide (look r p.1 = none) && virtB p.2) = true ∨ (∃ b' cs' cs f, p.2 = .var cs' f ∧ look r p.1 = some b' ∧ look st b' = some (.var cs f) ∧ SubC r cs' cs) ∨
    (look r p.1 = some p.1 ∧ look st p.1 = some p.2 ∧ fixX r p.2)
  | [], _, _, p, hp => by cases hp
  | (i, v) :: l, tm, ⟨h1, h2⟩, p, hp => by
    rcases List.mem_cons.1 hp with rfl | hp
    · exact h1
    · exact SubW.mem h2 p hp

theorem map_eq_mem {α β : Type} {f g : α → β} : ∀ {l : List α}, l.map f = l.map g → ∀ x ∈ l, f x = g x
  | [], _, x, hx => by cases hx
  | y :: l, h, x, hx => by
    simp only [List.map_cons, List.cons.injEq] at h
    rcases List.mem_cons.1 hx with rfl | hx
    · exact h.1
    · exact map_eq_mem h.2 x hx

/-- Lists of lists under other names; what is not in the later state may have any name. -/
theorem NOK.renA {O : Nat → Prop} {F : FZ} {m : MP} {st st' : ST} {H : Array Obj} {L : Nat → Nat → Nat → Prop} (hL : NOK O F m st H L) {r : List (Nat × Nat)} (h4 : ∀ b b2 c, look r b = some c → look r b2 = some c → (look st' b).isSome = true → (look st' b2).isSome = true → b = b2) (hal : ∀ b, aliveB st' b → look r b ≠ none → ∃ b', look r b = some b' ∧ aliveB st b')
    (hn : ∀ b x, look st' b = some x → isNest x = true → (∃ b', look r b = some b' ∧ look st b' = some x) ∨ look r b = none) : NOK O F (fun b => (look r b).bind m) st' H (fun g b i => (look st' b).isSome = true ∧ ∃ b', look r b = some b' ∧ L g b' i) := by
  refine ⟨?_, ?_, ?_, ?_⟩
  · rintro g b i ⟨_, b', _, hg⟩; exact hL.lo g b' i hg
  · rintro g b i b2 i2 ⟨s1, b', h1, hg⟩ ⟨s2, b2', h2, hg2⟩
    obtain ⟨e1, e2⟩ := hL.un g b' i b2' i2 hg hg2
    subst e1
    exact ⟨h4 _ _ _ h1 h2 s1 s2, e2⟩
  · rintro b g c ha hm b2 i ⟨_, b2', h1, hg⟩
    simp only [Option.bind_eq_some_iff] at hm
    obtain ⟨b', h2, hm⟩ := hm
    obtain ⟨b1, h3, a1⟩ := hal b ha (by rw [h2]; simp)
    rw [h2] at h3; cases h3
    exact hL.al b' g c a1 hm b2' i hg
  · intro b x hx
    rcases Bool.eq_false_or_eq_true (isNest x) with hne | hne
    rotate_left
    · exact NX_of_not hne
    rcases hn b x hx hne with ⟨b', h1, h2⟩ | h1
    · have := hL.nx b' x h2
      cases x with
      | nest e e2 s2 cs hole =>
        intro g c hm i c1 hc hh
        simp only [h1, Option.bind_some] at hm
        obtain ⟨y, hy, ls, n, e1, q1, q2, q3⟩ := this g c hm i c1 hc hh
        refine ⟨y, hy, ls, n, e1, q1, q2, q3.imp id ?_⟩
        rintro ⟨g2, cap, cur, p1, p2, p3⟩
        exact ⟨g2, cap, cur, p1, ⟨by rw [hx]; rfl, b', h1, p2⟩, p3⟩
      | _ => trivial
    · cases x with
      | nest e e2 s2 cs hole =>
        intro g c hm
        simp [h1] at hm
      | _ => trivial

/-- A state that says less. -/
theorem Rel.subF {O : Nat → Prop} {w0 : World} {F0 : FZ} {M0 : MP} {D : List Deferred} {U : Nat → Prop} {F : FZ} {m : MP} {sz : Nat} {tm tm' : TM} {st st' : ST} {a : Act} {w : World} {r : List (Nat × Nat)} {nx' pins : Nat} {ds : List Nat} {rd : Option Nat}
    (h : Rel O w0 F0 M0 D U F m sz tm st a w) (hp : ∀ b y, M0 b = some y → b < pins) (hs : SubF pins ds rd r tm' st' nx' tm st) : Rel O w0 F0 M0 D (fun b => nx' ≤ b) F (fun b => (look r b).bind m) sz tm' st' a w := by
  obtain ⟨g1, g2, g3, g4, _⟩ := hs
  have h1 := g1.mem
  have h2 := g2.mem
  rw [Bool.and_eq_true] at g3
  have h3 : ∀ p ∈ r, p.1 < nx' := fun p hp => by simpa using List.all_eq_true.1 g3.1 p hp
  have h3' : ∀ p ∈ st', p.1 < nx' := fun p hp => by simpa using List.all_eq_true.1 g3.2 p hp
  have virt : ∀ {b : Nat} {x : Bx}, (decide (look r b = none) && virtB x) = true → look r b = none ∧ ((∃ e size, x = .row e size [] 0) ∨ ∃ e e2 s2, x = .nest e e2 s2 [] []) := by
    intro b x h
    rw [Bool.and_eq_true] at h
    refine ⟨of_decide_eq_true h.1, ?_⟩
    have h2 := h.2
    unfold virtB at h2
    split at h2
    · exact .inl ⟨_, _, rfl⟩
    · exact .inr ⟨_, _, _, rfl⟩
    · cases h2
  rw [Bool.and_eq_true] at g4
  have h4 : ∀ b b2 c, look r b = some c → look r b2 = some c → (look st' b).isSome = true → (look st' b2).isSome = true → b = b2 := by
    have hn : ((r.filter fun p => (look st' p.1).isSome).map (·.2)).Nodup := of_decide_eq_true g4.1
    intro b b2 c e1 e2 s1 s2
    have m1 : (b, c) ∈ r.filter fun p => (look st' p.1).isSome := List.mem_filter.2 ⟨look_mem e1, s1⟩
    have m2 : (b2, c) ∈ r.filter fun p => (look st' p.1).isSome := List.mem_filter.2 ⟨look_mem e2, s2⟩
    obtain ⟨i, hi, h1⟩ := List.mem_iff_getElem.1 m1
    obtain ⟨j, hj, h2⟩ := List.mem_iff_getElem.1 m2
    have hij : i = j := by
      refine (List.getElem_inj (h₀ := by simpa using hi) (h₁ := by simpa using hj) hn).1 ?_
      simp [h1, h2]
    subst hij
    rw [h1] at h2
    exact congrArg Prod.fst h2
  have h5 : ∀ i, i < pins → look r i = some i := fun i hi => of_decide_eq_true (List.all_eq_true.1 g4.2 i (List.mem_range.2 hi))
  have hal : ∀ b, aliveB st' b → look r b ≠ none → ∃ b', look r b = some b' ∧ aliveB st b' := by
    rintro b ⟨x, hx, hd⟩ hnn
    obtain ⟨b', y, e1, e2, e3⟩ | hv | ⟨b', cs', cs, f, ex, e1, e3, hc⟩ | ⟨e1, e3, hfx⟩ := h2 _ (look_mem hx)
    rotate_left
    · exact absurd (virt hv).1 hnn
    · exact ⟨b', e1, _, e3, fun h => by cases h⟩
    · exact ⟨b, e1, _, e3, hd⟩
    refine ⟨b', e1, y, e3, ?_⟩
    rintro rfl
    simp only at e2
    cases x with
    | var cs f =>
      simp only [renX, Option.map_eq_some_iff] at e2
      obtain ⟨_, _, e4⟩ := e2
      cases e4
    | row e size cs p => cases e2
    | loop r => cases e2
    | mark p => cases e2
    | dead => exact hd rfl
    | nest _ _ _ _ _ => cases e2
  refine { htm := ?_, hsz := h.hsz, hde := h.hde, hst := ?_, inj := ?_, fresh := ?_, pin := fun b y e => by rw [h5 b (hp b y e)]; exact h.pin b y e, keep := h.keep, f0 := h.f0, f1 := h.f1, f2 := h.f2, mlt := ?_, below := h.below, hb := h.hb, nst := ?_ }
  rotate_left 5
  · obtain ⟨L, hL⟩ := h.nst
    refine ⟨_, hL.renA h4 hal fun b x hx hne => ?_⟩
    obtain ⟨b', y, e1, e2, e3⟩ | hv | ⟨b', cs', cs, f, ex, e1, e3, hc⟩ | ⟨e1, e3, hfx⟩ := h2 _ (look_mem hx)
    · simp only at e2
      cases x with
      | nest e e2' s2 cs hole =>
        simp only [renX, Option.some.injEq] at e2
        subst e2
        exact .inl ⟨b', e1, e3⟩
      | _ => cases hne
    · exact .inr (virt hv).1
    · simp only at ex
      subst ex; cases hne
    · simp only at e1 e3 hfx
      exact .inl ⟨b, e1, e3⟩
  · intro i
    cases hl : look tm' i with
    | none => exact trivial
    | some v =>
      simp only [Option.getD_some]
      rcases h1 _ (look_mem hl) with h1 | h1
      · exact renV_RV h1 (h.htm i)
      · have ht := h.htm i
        generalize (look tm i).getD .top = c at h1 ht
        simp only at h1
        unfold nilB at h1
        split at h1
        · exact .inr ⟨rfl, ht⟩
        · cases h1
  · intro b x hx
    obtain ⟨b', y, e1, e2, e3⟩ | hv | ⟨b', cs, cs', f, ex, e1, e3, hc⟩ | ⟨e1, e3, hfx⟩ := h2 _ (look_mem hx)
    rotate_left
    · obtain ⟨hr, ⟨e, size, rfl⟩ | ⟨e, e2, s2, rfl⟩⟩ := virt hv
      · simp only at hr
        exact .inr ⟨by simp [hr], rfl, rfl⟩
      · simp only at hr
        exact .inr ⟨by simp [hr], rfl, rfl⟩
    · simp only at ex e1
      subst ex
      obtain ⟨g, c, arr, ty, q1, q2, q3, q4, q5, q6⟩ := h.hst b' _ e3
      obtain ⟨l1, l2⟩ := hc.get
      refine ⟨g, c, arr, ty, by simp [e1, q1], q2, q3, ⟨by rw [l1]; exact q4.1, fun i c x hc hx => ?_⟩, q5, fun hf j hj => q6 hf j (by omega)⟩
      obtain ⟨c', hc', hr⟩ := l2 i c hc
      refine ⟨?_, (q4.2 i c' x hc' hx).2⟩
      rcases hr with hr | hr
      · exact renV_RV hr (q4.2 i c' x hc' hx).1
      · exact nilB_RV hr (q4.2 i c' x hc' hx).1
    · simp only at e1 e3 hfx
      have hy := h.hst b x e3
      cases x with
      | loop lp =>
        obtain ⟨g, c, l, q1, q2, q3, q4, q5, q6, q7, q8, q9, q10, q11⟩ := hy
        refine ⟨g, c, l, by simp [e1, q1], q2, q3, q4, q5, q6, q7, q8, q9, q10, fun i => ?_⟩
        have hi := q11 i
        cases hl : look lp.tm i with
        | none => exact trivial
        | some v =>
          rw [hl] at hi
          exact renV_RV (map_eq_mem hfx _ (look_mem hl)) hi
      | mark p =>
        obtain ⟨g, c, q1, q⟩ := hy
        exact ⟨g, c, by simp [e1, q1], q⟩
      | _ => exact hfx.elim
    simp only at e1 e2
    have hy := h.hst b' y e3
    cases x with
    | var cs f =>
      simp only [renX, Option.map_eq_some_iff] at e2
      obtain ⟨cs', hm, rfl⟩ := e2
      obtain ⟨g, c, arr, ty, q1, q2, q3, q4, q5, q6⟩ := hy
      obtain ⟨l1, l2⟩ := mapM_get hm
      refine ⟨g, c, arr, ty, by simp [e1, q1], q2, q3, ⟨by rw [l1]; exact q4.1, fun i c x hc hx => ?_⟩, q5, fun hf j hj => q6 hf j (by omega)⟩
      obtain ⟨c', hc', hr⟩ := l2 i c hc
      exact ⟨renV_RV hr (q4.2 i c' x hc' hx).1, (q4.2 i c' x hc' hx).2⟩
    | row e size cs p =>
      simp only [renX, Option.some.injEq] at e2
      subst e2
      rcases hy with ⟨g, cap, cur, q1, q⟩ | ⟨q1, q⟩
      · exact .inl ⟨g, cap, cur, by simp [e1, q1], q⟩
      · exact .inr ⟨by simp [e1, q1], q⟩
    | loop r => cases e2
    | mark p => cases e2
    | dead => trivial
    | nest e e2' s2 cs hole =>
      simp only [renX, Option.some.injEq] at e2
      subst e2
      rcases hy with ⟨g, cap, cur, q1, q⟩ | ⟨q1, q⟩
      · exact .inl ⟨g, cap, cur, by simp [e1, q1], q⟩
      · exact .inr ⟨by simp [e1, q1], q⟩
  · intro b b' g c c' ha ha' hm hm'
    obtain ⟨b1, e1, a1⟩ := hal b ha (fun e => by simp [e] at hm)
    obtain ⟨b2, e2, a2⟩ := hal b' ha' (fun e => by simp [e] at hm')
    rw [e1] at hm
    rw [e2] at hm'
    have := h.inj b1 b2 g c c' a1 a2 hm hm'
    subst this
    obtain ⟨x1, hx1, _⟩ := ha
    obtain ⟨x2, hx2, _⟩ := ha'
    exact h4 b b' b1 e1 e2 (by rw [hx1]; rfl) (by rw [hx2]; rfl)
  · intro b hb
    have hr : look r b = none := by
      cases hl : look r b with
      | none => rfl
      | some b' => have := h3 _ (look_mem hl); simp only at this; omega
    refine ⟨?_, by simp [hr]⟩
    cases hl : look st' b with
    | none => rfl
    | some x =>
      have := h3' _ (look_mem hl)
      simp only at this; omega
  · intro b g c hm
    simp only [Option.bind_eq_some_iff] at hm
    obtain ⟨b', _, hm⟩ := hm
    exact h.mlt b' g c hm

theorem marks_sub {m : MP} {r : List (Nat × Nat)} : ∀ {ds : List Nat} {D : List Deferred}, (ds.all fun i => decide (look r i = some i)) = true → MarksR m ds D → MarksR (fun b => (look r b).bind m) ds D
  | [], [], _, _ => trivial
  | b :: ds, d :: D, h, ⟨⟨g, c, h1, h2⟩, h3⟩ => by
    rw [List.all_cons, Bool.and_eq_true] at h
    have e := of_decide_eq_true h.1
    exact ⟨⟨g, c, by simp [e, h1], h2⟩, marks_sub h.2 h3⟩
  | [], _ :: _, _, h => h.elim
  | _ :: _, [], _, h => h.elim

theorem rd_sub {m : MP} {FF : Fence} {r : List (Nat × Nat)} : ∀ {rd : Option Nat}, (rd.toList.all fun i => decide (look r i = some i)) = true → RdOK m FF rd → RdOK (fun b => (look r b).bind m) FF rd
  | none, _, h => h
  | some b, hr, ⟨l, c, h1, h2⟩ => by
    have e : look r b = some b := by simpa using hr
    exact ⟨l, c, h1, by simp [e, h2]⟩

section
variable {P : Program} {C : FuncId → Option Con}

/-- What a call leaves behind, by what is asked of it. -/
def AfterW (O : Nat → Prop) (w : World) (F : FZ) (m : MP) (K : V → ST → Nat → Prop) (e : Ending) (w' : World) : Prop :=
  ∃ v F' m' r st' top', e = .returned v ∧ K r st' top' ∧ RelH O w F m top' F' m' st' w' ∧ RV m' F' w'.heap r v

def WFnOK (P : Program) (g : FuncId) (args : List V) (st : ST) (top : Nat) (K : V → ST → Nat → Prop) : Prop :=
  ∀ (O : Nat → Prop) (F : FZ) (m : MP) (w : World) (vs : List Value), RelH O w F m top F m st w → RVl m F w.heap args vs → Calls P g vs.toArray w (AfterW O w F m K)

def WYldOK (P : Program) (b : Nat) (args : List V) (st : ST) (top : Nat) (K : V → ST → Nat → Prop) : Prop :=
  ∀ (O : Nat → Prop) (F : FZ) (m : MP) (w : World) (vs : List Value), RelH O w F m top F m st w → RVl m F w.heap args vs → ∀ g c, m b = some (g, c) →
    ∃ fn tmps assign body, (Instr.yield g vs.toArray).run P w = .ok (.round g fn tmps assign body) w ∧ ∀ FF, Wide FF → RoundIn FF 0 P g fn tmps assign body w (AfterW O w F m K)

/-- Calls are followed as the model does. -/
def WHOK (P : Program) (H : WH) : Prop := ∀ c avs st top K, H c avs st top K → match c with
  | .fn g caps => EntersOK P g ∧ WFnOK P g (avs ++ caps) st top K
  | .yld b => WYldOK P b avs st top K
  | _ => False

theorem wop_ok {H : WH} (hC : CtxOK P C) (hH : WHOK P H) (o : Oper) {O : Nat → Prop} {w0 : World} {F0 : FZ} {M0 : MP} {D : List Deferred} {F : FZ} {m : MP} {sz : Nat} {tm : TM} {st : ST} {a : Act} {w : World} {top : Nat} {K : V → ST → Nat → Prop} {next : Act → World → Prop} {Q : Exit → Act → World → Prop}
    (h : Rel O w0 F0 M0 D (fun b => top ≤ b) F m sz tm st a w) (hd : okDst sz o.dst = true) (hx : wop P C H top tm st o.op K)
    (hn : ∀ v st' top' F' m' a' w', K v st' top' → Rel O w0 F0 M0 D (fun b => top' ≤ b) F' m' sz (putT tm o.dst v) st' a' w' → next a' w') : o.wpX P a w next Q := by
  have plain : (opA P top (ev tm) o.op).go st (fun v st' => K v st' (top + 1)) → o.wpX P a w next Q := by
    intro he
    refine opA_ok h (id := top) (Nat.le_refl _) hd he ?_
    intro F' m' c s a' w' hR hk
    exact hn _ _ _ F' m' a' w' hk (hR.weakU fun b hb => ⟨by omega, by omega⟩)
  cases ho : o.op with
  | call c =>
    obtain ⟨callee, args, ts⟩ := c
    cases callee with
    | value f =>
      rw [ho] at hx
      simp only [wop] at hx
      have hf := h.ev f
      obtain ⟨hal, hav⟩ := args_rel h args.toList
      split at hx
      · next g caps hg =>
        rw [hg] at hf
        split at hx
        · rw [← ho] at hx
          refine op_ok hC o h (id := top) (Nat.le_refl _) hd hx ?_
          intro F' m' c s a' w' hR hk
          exact hn _ _ _ F' m' a' w' hk (hR.weakU fun b hb => ⟨by omega, by omega⟩)
        · obtain ⟨henter, hok⟩ := hH _ _ _ _ _ hx
          obtain ⟨arr, hf', hl, hv⟩ := hf
          have hval : RVl m F w.heap (args.toList.map (ev tm) ++ caps) (args.toList.map a.eval ++ arr.toList) := by
            refine ⟨by rw [List.length_append, List.length_append, hal, hl], fun i c x hc hx => ?_⟩
            by_cases hi : i < (args.toList.map (ev tm)).length
            · rw [List.getElem?_append_left hi] at hc
              rw [List.getElem?_append_left (by omega)] at hx
              exact hav i c x hc hx
            · rw [List.getElem?_append_right (by omega)] at hc
              rw [List.getElem?_append_right (by omega), ← hal] at hx
              exact RV.of_RP (hv _ c x hc hx)
          have hrun : (execOp a.eval o).run P w = .ok (.enter g (args.toList.map a.eval ++ arr.toList).toArray) w := by
            simp only [execOp, ho, resolve, Deferred.ofValue, hf', Sem.run_bind, Sem.run_pure, Result.andThen_ok, invoke]
            have e : (#[] ++ args.map a.eval ++ arr) = (args.toList.map a.eval ++ arr.toList).toArray := by
              apply Array.ext'
              simp
            rw [e, henter]
          intro FF hW
          refine ⟨fun f _ => hW.fn f, ?_⟩
          rw [Oper.semAt_eq _ _ _ (not_defer hrun (fun d e => by cases e)), hrun]
          refine ⟨fun e => (by rw [hW.dep] at e; cases e), (callsIn_of_calls hW ?_)⟩
          refine (hok O F m w _ h.toH hval).mono ?_
          rintro e w' ⟨x, F', m', r, st', top', rfl, hk, hR, hr⟩
          exact hn _ _ _ F' m' _ _ hk ((h.back hR).put hd hr)
      · next b hb =>
        rw [hb] at hf
        obtain ⟨g, c, hm, hf'⟩ := hf
        obtain ⟨fn, tmps, assign, body, hy, hround⟩ := hH _ _ _ _ _ hx O F m w (args.toList.map a.eval) h.toH ⟨hal, hav⟩ g c hm
        have hrun : (execOp a.eval o).run P w = .ok (.round g fn tmps assign body) w := by
          simp only [execOp, ho, resolve, Deferred.ofValue, hf', Sem.run_bind, Sem.run_pure, Result.andThen_ok, invoke]
          have e : (#[] ++ args.map a.eval) = (args.toList.map a.eval).toArray := by
            apply Array.ext'
            simp
          rw [e, hy]
        intro FF hW
        refine ⟨fun f _ => hW.fn f, ?_⟩
        rw [Oper.semAt_eq _ _ _ (not_defer hrun (fun d e => by cases e)), hrun]
        refine ⟨fun e => (by rw [hW.dep] at e; cases e), (hround FF hW).mono ?_⟩
        rintro e w' ⟨x, F', m', r, st', top', rfl, hk, hR, hr⟩
        exact hn _ _ _ F' m' _ _ hk ((h.back hR).put hd hr)
      · exact hx.elim
    | builtin b => exact plain (by rw [ho] at hx ⊢; exact hx)
    | invoke r n => exact plain (by rw [ho] at hx ⊢; exact hx)
  | _ => exact plain (by rw [ho] at hx ⊢; exact hx)

/-- A region in the order of the text. -/
theorem wops_sound {H : WH} (hC : CtxOK P C) (hH : WHOK P H) {FF : Fence} (hW : Wide FF) {O : Nat → Prop} {w0 : World} {F0 : FZ} {M0 : MP} {D : List Deferred} {sz : Nat} {ops : Array Oper} {Q : Exit → Act → World → Prop} {K : TM → ST → Nat → Prop}
    (hn : ∀ tm' st' nx' F' m' a' w', K tm' st' nx' → Rel O w0 F0 M0 D (fun b => nx' ≤ b) F' m' sz tm' st' a' w' → Q .normal a' w') :
    ∀ (l : List Oper) (k : Nat) (top : Nat) (F : FZ) (m : MP) (tm : TM) (st : ST) (a : Act) (w : World), ops.toList.drop k = l → Rel O w0 F0 M0 D (fun b => top ≤ b) F m sz tm st a w →
      wops P C H sz ops.toList l top tm st K → wpOpsIn FF 0 P ops Q ((List.range ops.size).drop k) a w
  | [], k, top, F, m, tm, st, a, w, hl, h, hg => by
    have hk : ops.size ≤ k := by
      have := congrArg List.length hl
      simp at this
      omega
    rw [List.drop_of_length_le (by simpa using hk)]
    exact hn _ _ _ F m a w hg h
  | o :: l, k, top, F, m, tm, st, a, w, hl, h, hg => by
    have hk : k < ops.size := by
      have := congrArg List.length hl
      simp at this
      omega
    have ho : ops[k]? = some o := by
      have : (ops.toList.drop k)[0]? = some o := by rw [hl]; rfl
      rw [List.getElem?_drop, Nat.add_zero, Array.getElem?_toList] at this
      exact this
    have hl' : ops.toList.drop (k + 1) = l := by
      rw [← List.drop_drop, hl]; rfl
    have hr : (List.range ops.size).drop k = k :: (List.range ops.size).drop (k + 1) := by
      rw [List.drop_eq_getElem_cons (by simpa using hk)]
      simp
    rw [hr]
    simp only [wpOpsIn, ho]
    simp only [wops] at hg
    split at hg
    · cases hg
    · next hd =>
      have run : (wop P C H top tm st o.op fun v st' top' => wops P C H sz ops.toList l top' (putT tm o.dst v) st' K) → o.wpIn FF 0 P a w (wpOpsIn FF 0 P ops Q ((List.range ops.size).drop (k + 1))) Q := by
        intro hg
        refine wop_ok hC hH o h hd hg ?_ FF hW
        intro v st1 top1 F1 m1 a1 w1 hk1 hR
        exact wops_sound hC hH hW hn l (k + 1) top1 F1 m1 _ st1 a1 w1 hl' hR hk1
      have pass : wops P C H sz ops.toList l (top + 1) (putT tm o.dst vU) st K → wpOpsIn FF 0 P ops Q ((List.range ops.size).drop (k + 1)) (a.put o.dst undef) w := fun hg =>
        wops_sound hC hH hW hn l (k + 1) (top + 1) F m _ st _ w hl' ((h.weakU fun b hb => by omega).put hd (c := vU) rfl) hg
      split at hg
      · next hgd =>
        have hw : Region.wanted o (yielded ops a.tmps) = true := by simp [Region.wanted, hgd]
        rw [if_pos hw]
        exact run hg
      · next j want hgd =>
        split at hg
        · cases hg
        · next d hdj =>
          split at hg
          · next b hb =>
            have hy := yielded_of h hdj hb
            have g1 : (b == want) = true → wop P C H top tm st o.op fun v st' top' => wops P C H sz ops.toList l top' (putT tm o.dst v) st' K := by
              cases want
              · obtain ⟨_, g⟩ := br_elim hg; intro e; exact g (by simpa using e)
              · obtain ⟨g, _⟩ := br_elim hg; intro e; exact g (by simpa using e)
            have g2 : (b == want) = false → wops P C H sz ops.toList l (top + 1) (putT tm o.dst vU) st K := by
              cases want
              · obtain ⟨g, _⟩ := br_elim hg; intro e; exact g (by simpa using e)
              · obtain ⟨_, g⟩ := br_elim hg; intro e; exact g (by simpa using e)
            by_cases hbw : (b == want) = true
            · have hw : Region.wanted o (yielded ops a.tmps) = true := by simpa [Region.wanted, hgd, hy] using hbw
              rw [if_pos hw]
              exact run (g1 hbw)
            · have hw : ¬ Region.wanted o (yielded ops a.tmps) = true := by simpa [Region.wanted, hgd, hy] using hbw
              rw [if_neg hw]
              exact ⟨fun f _ => hW.fn f, pass (g2 (by simpa using hbw))⟩
          · next arr hb =>
            have hy := yielded_not h hdj hb
            have hw : ¬ Region.wanted o (yielded ops a.tmps) = true := by simp [Region.wanted, hgd, hy]
            rw [if_neg hw]
            exact ⟨fun f _ => hW.fn f, pass hg⟩
          · cases hg
end
end Go.Ev
/- The evaluator with inline calls is the model's: code, functions, rounds. -/
set_option linter.unusedVariables false
set_option linter.unusedSimpArgs false
namespace Go.Ev
open Go.RowKit

section
variable {P : Program} {C : FuncId → Option Con} {H : WH}

theorem wcode_sound (hC : CtxOK P C) (hH : WHOK P H) (hmix : P.follows .mixedOrders = true) {FF : Fence} (hW : Wide FF) {sz pins : Nat} {rd : Option Nat} {O : Nat → Prop} {w0 : World} {F0 : FZ} {M0 : MP} (hp : ∀ b y, M0 b = some y → b < pins) :
    ∀ (c : Code) (Q : AX → XS → Prop) (s : XS), wcode P C H sz pins rd c Q s →
    ∀ (QQ : Exit → Act → World → Prop) (F : FZ) (m : MP) (D : List Deferred) (a : Act) (w : World), Rel O w0 F0 M0 D (fun b => s.nx ≤ b) F m sz s.tm s.st a w → MarksR m s.ds D → RdOK m FF rd →
      (∀ e s' a' w' F' m' D', Q e s' → Rel O w0 F0 M0 D' (fun b => s'.nx ≤ b) F' m' sz s'.tm s'.st a' w' → MarksR m' s'.ds D' → RdOK m' FF rd → QQ (exOf e) a' w') → c.wpIn FF 0 P QQ a w
  | .skip, Q, s, hx, QQ, F, m, D, a, w, h, hM, hrd, hq => wpIn_skip (hq .normal s a w F m D hx h hM hrd)
  | .exit i, Q, s, hx, QQ, F, m, D, a, w, h, hM, hrd, hq => wpIn_exit (hq (.exit i) s a w F m D hx h hM hrd)
  | .ret, Q, s, hx, QQ, F, m, D, a, w, h, hM, hrd, hq => wpIn_ret (hq .ret s a w F m D hx h hM hrd)
  | .region id ops false, Q, s, hx, QQ, F, m, D, a, w, h, hM, hrd, hq => by
    simp only [wcode] at hx
    refine wpIn_region ?_
    have := wops_sound hC hH hW (Q := QQ) (w0 := w) (F0 := F) (M0 := m) (D := D) (fun tm' st' nx' F' m' a' w' hk hR => hq .normal ⟨tm', s.ds, st', nx', s.b0⟩ a' w' F' m' D hk (h.comp hR) (hM.mono hR.pin) (hrd.mono hR.pin)) ops.toList 0 s.nx F m s.tm s.st a w rfl h.base hx
    simpa using this
  | .region id ops true, Q, s, hx, QQ, F, m, D, a, w, h, hM, hrd, hq => by
    simp only [wcode] at hx
    split at hx
    · next hah =>
      exact evOpsD_sound hC hW hmix hah h.base hx fun F' m' tm' st' a' w' hR hK =>
        hq .normal _ a' w' F' m' D hK (h.comp hR) (hM.mono hR.pin) (hrd.mono hR.pin)
    · cases hx
  | .seq x y, Q, s, hx, QQ, F, m, D, a, w, h, hM, hrd, hq => by
    simp only [wcode] at hx
    refine wpIn_seq ?_
    refine wcode_sound hC hH hmix hW hp x _ s hx _ F m D a w h hM hrd ?_
    intro e s1 a1 w1 F1 m1 D1 hk r1 r2 r3
    cases e with
    | normal => exact wcode_sound hC hH hmix hW hp y Q s1 hk QQ F1 m1 D1 a1 w1 r1 r2 r3 hq
    | exit i => exact hq (.exit i) s1 a1 w1 F1 m1 D1 hk r1 r2 r3
    | ret => exact hq .ret s1 a1 w1 F1 m1 D1 hk r1 r2 r3
  | .cond c x y, Q, s, hx, QQ, F, m, D, a, w, h, hM, hrd, hq => by
    simp only [wcode] at hx
    have he := h.ev c
    split at hx
    · next b hb =>
      rw [hb] at he
      have he' : a.eval c = .bool b := he
      obtain ⟨g1, g2⟩ := br_elim hx
      refine wpIn_cond he' ?_
      cases b with
      | true => exact wcode_sound hC hH hmix hW hp x Q s (g1 rfl) QQ F m D a w h hM hrd hq
      | false => exact wcode_sound hC hH hmix hW hp y Q s (g2 rfl) QQ F m D a w h hM hrd hq
    · cases hx
  | .block i c, Q, s, hx, QQ, F, m, D, a, w, h, hM, hrd, hq => by
    simp only [wcode] at hx
    refine wpIn_block ?_
    refine wcode_sound hC hH hmix hW hp c _ s hx _ F m D a w h hM hrd ?_
    intro e s1 a1 w1 F1 m1 D1 hk r1 r2 r3
    cases e with
    | normal => exact hq .normal s1 a1 w1 F1 m1 D1 hk r1 r2 r3
    | exit j =>
      show Exit.inBlock i QQ (.exit j) a1 w1
      simp only [Exit.inBlock]
      by_cases hj : j = i
      · rw [if_pos hj]
        simp only [hj, decide_true] at hk
        exact hq .normal s1 a1 w1 F1 m1 D1 hk r1 r2 r3
      · rw [if_neg hj]
        simp only [hj, decide_false] at hk
        exact hq (.exit j) s1 a1 w1 F1 m1 D1 hk r1 r2 r3
    | ret => exact hq .ret s1 a1 w1 F1 m1 D1 hk r1 r2 r3
  | .loop c, Q, s, hx, QQ, F, m, D, a, w, h, hM, hrd, hq => by
    simp only [wcode] at hx
    obtain ⟨α, mk, μ, ⟨x0, r0, h0⟩, hround⟩ := hx
    refine wpIn_loop_ghost (fun n a w => ∃ x F m D, μ x = n ∧ Rel O w0 F0 M0 D (fun b => (mk x).nx ≤ b) F m sz (mk x).tm (mk x).st a w ∧ MarksR m s.ds D ∧ RdOK m FF rd) (μ x0)
      ⟨x0, F, _, D, rfl, h.subF hp h0, marks_sub h0.2.2.2.2.1 hM, rd_sub h0.2.2.2.2.2 hrd⟩ ?_
    rintro n a w ⟨x, F, m, D, rfl, hR, hM1, hrd1⟩
    refine wcode_sound hC hH hmix hW hp c _ ⟨(mk x).tm, s.ds, (mk x).st, (mk x).nx, s.b0⟩ (hround x) _ F m D a w hR hM1 hrd1 ?_
    intro e s1 a1 w1 F1 m1 D1 hk r1 r2 r3
    cases e with
    | normal =>
      obtain ⟨hds, y, r, hs, hlt⟩ := hk
      rw [hds] at r2
      exact ⟨μ y, hlt, y, F1, _, D1, rfl, r1.subF hp hs, marks_sub hs.2.2.2.2.1 r2, rd_sub hs.2.2.2.2.2 r3⟩
    | exit i =>
      obtain ⟨n, hn, hk⟩ := hk
      exact hq (.exit i) _ a1 w1 F1 m1 D1 hk (r1.weakU fun b hb => Nat.le_trans hn hb) r2 r3
    | ret =>
      obtain ⟨n, hn, hk⟩ := hk
      exact hq .ret _ a1 w1 F1 m1 D1 hk (r1.weakU fun b hb => Nat.le_trans hn hb) r2 r3
  | .rangeFunc f ps assign body, Q, s, hx, QQ, F, m, D, a, w, h, hM, hrd, hq => by
    simp only [wcode] at hx
    split at hx
    · cases hx
    · next s1 hs1 =>
      have hf := h.ev f
      split at hx
      · next g caps hg =>
        rw [hg] at hf
        obtain ⟨arr, hf', hl, hv⟩ := hf
        obtain ⟨henter, hok⟩ := hH _ _ _ _ _ hx
        refine wpIn_rangeFunc fun fn _ => ?_
        have ha : a.defers = D := h.hde
        -- the call
        have hres : ∀ (l : Nat) (w1 : World), (resolve a.eval (rangeCall f l) 0).run P w1 = .ok { target := .fn (.func g) arr, args := #[.func (.yield l) #[] #[]] } w1 := by
          intro l w1
          have e : (rangeCall f l).args.map a.eval = #[.func (.yield l) #[] #[]] := by simp [rangeCall, Act.eval]
          show (Deferred.ofValue (a.eval f) ((rangeCall f l).args.map a.eval)).run P w1 = _
          rw [hf', e]
          rfl
        have hinv : ∀ (l : Nat) (w1 : World), (invoke (.fn (.func g) arr) #[.func (.yield l) #[] #[]]).run P w1 = .ok (.enter g (.func (.yield l) #[] #[] :: arr.toList).toArray) w1 := by
          intro l w1
          simp only [invoke]
          have e : (#[.func (.yield l) #[] #[]] ++ arr : Array Value) = (.func (.yield l) #[] #[] :: arr.toList).toArray := by
            apply Array.ext'
            simp
          rw [e, henter]
        have hargs : ∀ (F1 : FZ) (m1 : MP) (w1 : World) (l c : Nat), m1 s.nx = some (l, c) → (∀ b y, m b = some y → m1 b = some y) → (∀ g j, F g j → F1 g j) → Keeps F w.heap w1.heap → RVl m1 F1 w1.heap ([.yld s.nx] ++ caps) (.func (.yield l) #[] #[] :: arr.toList) := by
          intro F1 m1 w1 l c hb hmm hff hkk
          refine ⟨by simp [hl], fun i c' x hc hx => ?_⟩
          cases i with
          | zero => simp at hc hx; subst hc hx; exact ⟨l, c, hb, rfl⟩
          | succ i =>
            simp at hc hx
            exact RV.of_RP ((hv i c' x hc (by simpa using hx)).mono hmm hff hkk)
        -- what is asked behind the call
        have after : ∀ {D' : List Deferred} {ds' : List Nat} {U : Nat → Prop} {F2 F3 : FZ} {m2 m3 : MP} {w1 w2 : World} {st1 st2 : ST} {nx2 l c : Nat} {a' : Act} {v : Value},
            (match look st2 s.nx with
              | some (.loop r2) => match isBusy r2.state with
                | true => False
                | false => match r2.pending with
                  | none => Q .normal ⟨s.tm, ds', (s.nx, .loop { r2 with state := .exhausted }) :: st2, nx2, s.b0⟩
                  | some (.exit i) => Q (.exit i) ⟨s.tm, ds', (s.nx, .loop { r2 with state := .exhausted }) :: st2, nx2, s.b0⟩
                  | some .ret => Q .ret ⟨s.tm, ds', (s.nx, .loop { r2 with state := .exhausted }) :: st2, nx2, s.b0⟩
                  | _ => False
              | _ => False) →
            Rel O w0 F0 M0 D U F2 m2 sz s.tm st1 a w1 → RelH O w1 F2 m2 nx2 F3 m3 st2 w2 → a'.tmps = a.tmps → a'.defers = D' → m2 s.nx = some (l, c) → MarksR m2 ds' D' → (∀ b y, m b = some y → m2 b = some y) → rangePost FF 0 P l QQ a' (.returned v) w2 := by
          intro D' ds' U F2 F3 m2 m3 w1 w2 st1 st2 nx2 l c a' v hk hR hkR hat haD hb hMk hmm
          split at hk
          · next r2 hr2 =>
            split at hk
            · cases hk
            · next hbusy =>
              split at hk
              · next hpn =>
                exact range_end (e := .normal) (j := none) hR hkR hat haD hb hr2 hbusy hMk hpn (.inl ⟨rfl, rfl⟩) fun w3 F' m' r1 r2' r3' => hq .normal _ _ w3 F' m' D' hk r1 r3' (hrd.mono fun b y e => r2' b y (hmm b y e))
              · next i hpn =>
                exact range_end (e := .exit i) (j := some (.exit i)) hR hkR hat haD hb hr2 hbusy hMk hpn (.inr (.inl ⟨i, rfl, rfl⟩)) fun w3 F' m' r1 r2' r3' => hq (.exit i) _ _ w3 F' m' D' hk r1 r3' (hrd.mono fun b y e => r2' b y (hmm b y e))
              · next hpn =>
                exact range_end (e := .ret) (j := some .ret) hR hkR hat haD hb hr2 hbusy hMk hpn (.inr (.inr ⟨rfl, rfl⟩)) fun w3 F' m' r1 r2' r3' => hq .ret _ _ w3 F' m' D' hk r1 r3' (hrd.mono fun b y e => r2' b y (hmm b y e))
              · cases hk
          · cases hk
        cases rd with
        | none =>
          have hro : FF.round = none := hrd
          cases hs1
          obtain ⟨hA, hmA, hkA⟩ := h.base.newO (id := s.nx + 1) (cap := 0) (by show s.nx ≤ s.nx + 1; omega) (o := .deferred (some [])) (x := .mark true) (by simp) (by
            intro m' hm' hid hk hh hno
            exact ⟨_, _, hid, h.own_new, hh, hno⟩)
          obtain ⟨hB, hmB, hkB⟩ := hA.newO (id := s.nx) (cap := 0) (by constructor <;> first | omega | (show s.nx ≤ s.nx; omega)) (o := .loop { state := .ready, pending := none, fn, tmps := a.tmps, params := ps, assign, body, defers := w.heap.size })
            (x := .loop ⟨s.tm, sz, ps, assign, body, .ready, none⟩) (by simp) (by
            intro m' hm' hid hk hh hno
            exact ⟨_, _, _, hid, hA.own_new, hh, hno, rfl, rfl, rfl, rfl, rfl, h.hsz, fun i => (hA.htm i).mono hm' (fun _ _ e => e) hk⟩)
          have hsize : (w.alloc (.deferred (some []))).heap.size = w.heap.size + 1 := by simp
          refine ⟨w.heap.size + 1, [{ target := .collected w.heap.size, args := #[] }], _, _, _, g, _, _, by rw [hro]; exact run_enterLoop_outer fn a.tmps ps assign body, hres _ _, fun f' _ => hW.fn f', hinv _ _, fun e => (by rw [hW.dep] at e; cases e), callsIn_of_calls hW ?_⟩
          refine (hok O _ _ _ _ (hB.weakU (U' := fun b => s.nx + 2 ≤ b) fun b hb => ⟨⟨show s.nx ≤ b by omega, by omega⟩, by omega⟩).toH (hargs _ _ _ (w.heap.size + 1) 0 (by simp [hsize]) (fun b y e => hmB b y (hmA b y e)) (fun _ _ e => e) (fun g' j' e => (hkB g' j' e).trans (hkA g' j' e)))).mono ?_
          rintro en w2 ⟨v, F3, m3, rr, st2, nx2, rfl, hk, hkR, _⟩
          refine after (a' := { a with defers := [{ target := .collected w.heap.size, args := #[] }] ++ a.defers }) (D' := { target := .collected w.heap.size, args := #[] } :: D) (ds' := (s.nx + 1) :: s.ds) (c := 0) hk (h.comp hB) hkR rfl (by rw [← ha]; rfl) (by simp [hsize]) ?_ (fun b y e => hmB b y (hmA b y e))
          exact ⟨⟨w.heap.size, 0, by simp, rfl⟩, hM.mono fun b y e => hmB b y (hmA b y e)⟩
        | some b =>
          obtain ⟨l0, c0, hro, hb0⟩ := hrd
          simp only [xenter] at hs1
          split at hs1
          · next r0 hr0 =>
            cases hs1
            obtain ⟨g0, c0', lp0, z1, z2, z3, _⟩ := h.hst b _ hr0
            rw [hb0] at z1; cases z1
            obtain ⟨hB, hmB, hkB⟩ := h.base.newO (id := s.nx) (cap := 0) (by show s.nx ≤ s.nx; omega) (o := .loop { state := .ready, pending := none, fn, tmps := a.tmps, params := ps, assign, body, defers := lp0.defers })
              (x := .loop ⟨s.tm, sz, ps, assign, body, .ready, none⟩) (by simp) (by
              intro m' hm' hid hk hh hno
              exact ⟨_, _, _, hid, h.own_new, hh, hno, rfl, rfl, rfl, rfl, rfl, h.hsz, fun i => (h.htm i).mono hm' (fun _ _ e => e) hk⟩)
            refine ⟨w.heap.size, [], _, _, _, g, _, _, by rw [hro]; exact run_enterLoop_inner z3 fn a.tmps ps assign body, hres _ _, fun f' _ => hW.fn f', hinv _ _, fun e => (by rw [hW.dep] at e; cases e), callsIn_of_calls hW ?_⟩
            refine (hok O _ _ _ _ (hB.weakU (U' := fun b => s.nx + 1 ≤ b) fun b hb => ⟨show s.nx ≤ b by omega, by omega⟩).toH (hargs _ _ _ w.heap.size 0 (by simp) hmB (fun _ _ e => e) hkB)).mono ?_
            rintro en w2 ⟨v, F3, m3, rr, st2, nx2, rfl, hk, hkR, _⟩
            exact after (a' := { a with defers := [] ++ a.defers }) (D' := D) (ds' := s.ds) (c := 0) hk (h.comp hB) hkR rfl (by rw [← ha]; rfl) (by simp) (hM.mono hmB) hmB
          · cases hs1
      · cases hx
  | .scope _, _, _, hx, _, _, _, _, _, _, _, _, _, _ => hx.elim
  | .label _, _, _, hx, _, _, _, _, _, _, _, _, _, _ => hx.elim
  | .goto _, _, _, hx, _, _, _, _, _, _, _, _, _, _ => hx.elim
  | .refuse _, _, _, hx, _, _, _, _, _, _, _, _, _, _ => hx.elim

theorem wres_ok {fn : Func} {O : Nat → Prop} {w0 : World} {F0 : FZ} {M0 : MP} {D : List Deferred} {U : Nat → Prop} {F : FZ} {m : MP} {sz : Nat} {tm : TM} {st : ST} {a : Act} {w : World} {K : V → ST → Prop}
    (h : Rel O w0 F0 M0 D U F m sz tm st a w) (hx : wres P fn tm st K) : ∃ v F' r st', (results fn a.tmps).run P w = .ok v w ∧ K r st' ∧ Rel O w0 F0 M0 D U F' m sz tm st' a w ∧ RV m F' w.heap r v := by
  unfold wres at hx
  split at hx
  · next t ht =>
    refine ⟨_, F, _, _, results_eq fn a.tmps w [a.tmps.getD t undef] (by rw [ht]; simp [List.mapM_cons, resOne]), hx, h, ?_⟩
    exact h.htm t
  · next p t ht =>
    obtain ⟨F0', st0, c0, v0, h0, e0, hrun, hv0, hk⟩ := load_sound (P := P) h hx
    have hld : (resOne a.tmps (.cell p t)).run P w = .ok v0 w := by
      have e : a.eval (.tmp p) = a.tmps.getD p undef := rfl
      rw [e] at hrun
      simp only [resOne]
      cases hp : a.tmps.getD p undef with
      | pointer q =>
        rw [hp] at hrun
        cases q with
        | some q => simpa [asAddr, Instr.loadAt, Instr.sureAddr] using hrun
        | none => simp [Instr.loadAt, Instr.sureAddr, Result.andThen] at hrun
      | _ => rw [hp] at hrun; simp [Instr.loadAt, Instr.sureAddr, Result.andThen] at hrun
    exact ⟨_, F0', c0, st0, results_eq fn a.tmps w [v0] (by rw [ht]; simp [List.mapM_cons, hld]), hk, h0, hv0⟩
  · obtain ⟨F1, st1, vs1, c1, r1, r2, r3, r4⟩ := resR_sound fn.results.toList [] [] F st h hx rfl (by simp)
    exact ⟨_, F1, c1, st1, results_eq fn a.tmps w vs1 r2, r4, r1, RV.of_RC r3⟩

theorem wfn_ok (hC : CtxOK P C) (hH : WHOK P H) (hmix : P.follows .mixedOrders = true) {g : FuncId} {fn : Func} {c : Code} (hf : P.funcs[g]? = some fn) (hb : fn.body = some c) {args : List V} {st : ST} {top : Nat} {K : V → ST → Nat → Prop}
    (hx : wfn P C H fn c args st top K) : WFnOK P g args st top K := by
  intro O F m w vs h hv
  unfold wfn at hx
  split at hx
  · cases hx
  · next hle =>
    have hlen : args.length ≤ fn.ntmps := Nat.le_of_ble_eq_true hle
    refine callsIn_wide.1 (callsIn_of_wp_marks (n := 0) hf hb trivial ?_)
    have hR0 : Rel O w F m [] (fun b => top ≤ b) F m fn.ntmps (startT args) st { tmps := vs.toArray ++ Array.replicate (fn.ntmps - vs.toArray.size) undef, defers := [] } w := by
      refine h.act (fun i => ?_) (by have := hv.1; simp; omega) rfl
      have e : look (startT args) i = args[i]? := by
        unfold startT
        rw [List.range_eq_range', look_start args 0 i]
        simp
      rw [e]
      cases hi : args[i]? with
      | none => exact trivial
      | some c =>
        have hl := hv.1
        have hil : i < args.length := (List.getElem?_eq_some_iff.1 hi).1
        have hx : vs[i]? = some (vs[i]'(by omega)) := List.getElem?_eq_getElem (by omega)
        have := hv.2 i c _ hi hx
        simp only [Option.getD_some]
        have e2 : (vs.toArray ++ Array.replicate (fn.ntmps - vs.toArray.size) undef).getD i undef = vs[i]'(by omega) := by
          rw [Array.getD_eq_getD_getElem?, Array.getElem?_append_left (by simp; omega)]
          simp [hx]
        rw [e2]
        exact this
    have hpins : ∀ b y, m b = some y → b < top := by
      intro b y e
      by_cases hb : top ≤ b
      · rw [(h.fresh b hb).2] at e; cases e
      · omega
    refine wcode_sound hC hH hmix wide_wide hpins c _ ⟨startT args, [], st, top, top⟩ hx _ F m [] _ w hR0 trivial rfl fun e s a' w' F' m' D' hk r1' r3' _ => ?_
    have fin : ∀ st1, xmarks s.ds s.st = some st1 → (wres P fn s.tm st1 fun r st2 => K r st2 s.nx) → LeavesInM Fence.wide 0 P fn a'.tmps (AfterW O w F m K) a'.defers .returning w' := by
      intro st1 hm hr
      rw [r1'.hde]
      refine leaves_ok s.ds D' s.st st1 w' hm r1' r3' fun w1 hR1 => ?_
      obtain ⟨v, F2, r, st2, hrun, hk2, hR2, hv2⟩ := wres_ok hR1 hr
      exact ⟨v, hrun, v, F2, m', r, st2, s.nx, rfl, hk2, hR2.heap, hv2⟩
    cases e with
    | normal =>
      simp only at hk
      split at hk
      · cases hk
      · next st1 hm => exact fin st1 hm hk
    | ret =>
      simp only at hk
      split at hk
      · cases hk
      · next st1 hm => exact fin st1 hm hk
    | exit i => exact hk.elim

theorem wround_ok (hC : CtxOK P C) (hH : WHOK P H) (hmix : P.follows .mixedOrders = true) {b : Nat} {args : List V} {st : ST} {top : Nat} {K : V → ST → Nat → Prop}
    (hx : wround P C H b args st top K) : WYldOK P b args st top K := by
  intro O F m w vs h hv g c hm
  have hpins : ∀ b y, m b = some y → b < top := by
    intro b y e
    by_cases hb : top ≤ b
    · rw [(h.fresh b hb).2] at e; cases e
    · omega
  unfold wround at hx
  split at hx
  · next r0 hl0 =>
    split at hx
    · next hrd =>
      split at hx
      · cases hx
      · next hlen =>
        rw [Bool.and_eq_true] at hlen
        have hn : args.length = r0.ps.size := Nat.eq_of_beq_eq_true hlen.1
        obtain ⟨g', c', lp, q1, q2, q3, q4, q5, q6, q7, q8, q9, q10, q11⟩ := h.hst b _ hl0
        rw [hm] at q1; cases q1
        have hvs : vs.length = lp.params.size := by rw [q7, ← hn, hv.1]
        have hy := run_yield (P := P) (args := vs.toArray) q3 (by simpa using hvs)
        refine ⟨_, _, _, _, hy, fun FF hW => ?_⟩
        have hfold : (lp.params.zip vs.toArray).foldl (fun tmps (t, a) => tmps.setIfInBounds t a) lp.tmps = (r0.ps.toList.zip vs).foldl (fun t p => t.setIfInBounds p.1 p.2) lp.tmps := by
          rw [q7, ← Array.foldl_toList, Array.toList_zip]
        have hput := foldl_put (m := m) (F := F) (Hp := w.heap) (sz := r0.sz) (r0.ps.toList.zip args) (r0.ps.toList.zip vs) r0.tm lp.tmps (by simp [hv.1]) (by
          intro i p q e1 e2
          rw [List.getElem?_zip_eq_some] at e1 e2
          have : p.1 = q.1 := by have := e1.1.symm.trans e2.1; simpa using this
          refine ⟨this, ?_, hv.2 i _ _ e1.2 e2.2⟩
          have := List.all_eq_true.1 hlen.2 p.1 (List.mem_of_getElem? e1.1)
          exact Nat.le_of_ble_eq_true this) q10 q11
        refine roundIn_of_wpIn (hW.fn _) ?_
        rw [hfold]
        have hR0 : Rel O w F m [] (fun b => top ≤ b) F m r0.sz ((r0.ps.toList.zip args).foldl (fun t p => p :: t) r0.tm) st { tmps := (r0.ps.toList.zip vs).foldl (fun t p => t.setIfInBounds p.1 p.2) lp.tmps, defers := [] } w :=
          h.act hput.2 hput.1 rfl
        have hrdok : RdOK m (FF.inRound g) (some b) := ⟨g, c, rfl, hm⟩
        rw [q8]
        refine wcode_sound hC hH hmix (wide_round hW g) hpins r0.assign _ ⟨_, [], st, top, top⟩ hx _ F m [] _ w hR0 trivial hrdok fun e s1 a1 w1 F1 m1 D1 hk z1 z3 z4 => ?_
        cases e with
        | normal =>
          simp only at hk
          split at hk
          · next r1 hl1 =>
            split at hk
            · next hrd1 =>
              -- the body
              have hm1 := z1.pin _ _ hm
              obtain ⟨g1, c1, lp1, y1, y2, y3, y4, y5, y6, y7, y8, y9, y10, y11⟩ := z1.hst b _ hl1
              rw [hm1] at y1; cases y1
              have hB := z1.putO (x1 := .loop { r1 with state := .busy }) hl1 (by simp) (by simp) hm1 y2 y4 (o := .loop { lp1 with state := .busy }) (fun hkk hnew =>
                ⟨_, _, _, hm1, y2, hnew, y4, rfl, y6, y7, y8, y9, y10, fun i => (y11 i).mono (fun _ _ e => e) (fun _ _ e => e) hkk⟩)
              refine ⟨_, run_beginRound y3 (by rw [y5]; exact isReady_eq hrd1), ?_⟩
              rw [q9]
              refine wcode_sound hC hH hmix (wide_round hW g) hpins r0.body _ ⟨s1.tm, s1.ds, _, s1.nx, s1.b0⟩ hk _ F1 m1 D1 _ _ hB z3 z4 fun e s2 a2 w2 F2 m2 D2 hk2 x1 x3 x4 => ?_
              split at hk2
              · next r2 hl2 =>
                have hm2 := x1.pin _ _ hm
                obtain ⟨g2, c2, lp2, u1, u2, u3, u4, u5, u6, u7, u8, u9, u10, u11⟩ := x1.hst b _ hl2
                rw [hm2] at u1; cases u1
                have fin : ∀ (j : Option Code) (ls : LoopState), ls = (if j.isNone then .ready else .done) → Rel O w F m D2 (fun b => s2.nx ≤ b) F2 m2 r0.sz s2.tm ((b, .loop { r2 with state := ls, pending := j }) :: s2.st) a2 (w2.putObj g (.loop { lp2 with state := (if j.isNone then .ready else .done), pending := j })) := by
                  intro j ls hls
                  subst hls
                  exact x1.putO hl2 (by simp) (by simp) hm2 u2 u4 (fun hkk hnew =>
                    ⟨_, _, _, hm2, u2, hnew, u4, rfl, rfl, u7, u8, u9, u10, fun i => (u11 i).mono (fun _ _ e => e) (fun _ _ e => e) hkk⟩)
                cases e with
                | normal => exact ⟨_, _, run_endRound none u3, _, F2, m2, _, _, _, rfl, hk2, (fin none .ready rfl).heap, rfl⟩
                | exit i => exact ⟨_, _, run_endRound (some (.exit i)) u3, _, F2, m2, _, _, _, rfl, hk2, (fin (some (.exit i)) .done rfl).heap, rfl⟩
                | ret => exact ⟨_, _, run_endRound (some .ret) u3, _, F2, m2, _, _, _, rfl, hk2, (fin (some .ret) .done rfl).heap, rfl⟩
              · cases hk2
            · cases hk
          · cases hk
        | exit i => exact hk.elim
        | ret => exact hk.elim
    · cases hx
  · cases hx

theorem wcall_ok {G : XG} (hC : CtxOK P C) (hG : GOK P G) (hmix : P.follows .mixedOrders = true) : ∀ n, WHOK P (wcall P C G n)
  | 0 => fun c avs st top K h => h.elim
  | n + 1 => by
    intro c avs st top K h
    have ih := wcall_ok hC hG hmix n
    simp only [wcall] at h
    split at h
    · next g caps =>
      split at h
      · next fn hg =>
        split at h
        · next code hb => exact ⟨(hG g fn hg).2, wfn_ok hC ih hmix (hG g fn hg).1 hb h⟩
        · cases h
      · cases h
    · next b => exact wround_ok hC ih hmix h
    · cases h

/-- What is asked of a result at the end. -/
def endI (r : V) (v : V) (st : ST) (nx : Nat) : Prop := (fz 4 v .ret).go st fun r' _ => LeV r' r

/-- A FUNCTION, by what the evaluator says of it, calls followed inline. -/
theorem hasI {G : XG} (hC : CtxOK P C) (hG : GOK P G) (hmix : P.follows .mixedOrders = true) (n : Nat) {f : FuncId} {fn : Func} {c : Code} (hf : P.funcs[f]? = some fn) (hb : fn.body = some c)
    (hn : (fn.name == "runtime.NumGoroutine") = false) {α β : Type} {F : α → Option β} {enc : α → List V} {er : β → V}
    (h : ∀ x r, (F x).bind some = some r → wfn P C (wcall P C G n) fn c (enc x) [] 0 (endI (er r))) : Has P f (conF F enc er) := by
  refine ⟨?_, enters_ok hf hn (by simp [hb])⟩
  show SoundV P f _
  rintro ⟨x, y⟩ F1 w vs hF hv hok
  have hok : F x = some y := hok
  have hx := h x y (by rw [hok]; rfl)
  have hR : RelH (fun k => w.heap.size ≤ k) w F1 (fun _ => none) 0 F1 (fun _ => none) [] w :=
    { htm := fun i => trivial, hsz := rfl, hde := rfl, nst := ⟨_, NOK.nil⟩, hst := fun b x hx => by simp at hx, inj := fun b b' g c c' _ _ hm => (by cases hm), fresh := fun b _ => ⟨rfl, rfl⟩, pin := fun b y e => (by cases e), keep := Keeps.refl _ _, f0 := fun _ _ e => e, f1 := fun _ _ e => .inl e, f2 := hF, mlt := fun b g c hm => (by cases hm), below := Own.refl _ _, hb := fun _ e => e }
  have hv' : RVl (fun _ => none) F1 w.heap (enc x) vs := by
    have := RCs_iff.1 hv
    exact ⟨this.1, fun i c x hc hx => RV.of_RC (this.2 i c x hc hx).1⟩
  refine (wfn_ok hC (wcall_ok hC hG hmix n) hmix hf hb hx _ F1 _ w vs hR hv').mono ?_
  rintro e w' ⟨v, F', m', r1, st', top', rfl, hk, hR', hr⟩
  obtain ⟨F2, st2, c1, k1, k2, k3, k4, _⟩ := fz_sound 4 r1 v .ret st' F' (fun c' s => LeV c' (er y)) hR' hr hk
  exact ⟨v, F2, rfl, k1.below.below, k1.f0, k1.f1, k1.f2, LeV.le k4 _ _ _ k3⟩
end
end Go.Ev
/- Steps of the evaluator with inline calls, one at a time. -/
set_option linter.unusedVariables false
set_option linter.unusedSimpArgs false
namespace Go.Ev

/-- Boxes that a renaming leaves alone. -/
def idr (n : Nat) : List (Nat × Nat) := (List.range n).map fun i => (i, i)
/-- Boxes that a loop keeps as they are. -/
noncomputable def keepB (keep : List Nat) (st : ST) : ST := keep.filterMap fun b => (look st b).map fun x => (b, x)

section
variable {P : Program} {C : FuncId → Option Con} {H : WH} {sz pins nx b0 top : Nat} {tm : TM} {st : ST} {ds : List Nat} {rd : Option Nat}

/-! operations -/
def isV : Op → Bool
  | .call c => match c.callee with
    | .value _ => true
    | _ => false
  | _ => false
theorem wop_plain {op : Op} {K : V → ST → Nat → Prop} (hv : isV op = false) (h : (opA P top (ev tm) op).go st fun v st' => K v st' (top + 1)) : wop P C H top tm st op K := by
  cases op with
  | call c =>
    obtain ⟨callee, args, x⟩ := c
    cases callee with
    | value f => cases hv
    | _ => exact h
  | _ => exact h
theorem wop_con {c : Call} {f : Operand} {g : FuncId} {caps : List V} {con : Con} {K : V → ST → Nat → Prop} (hv : c.callee = .value f) (hf : ev tm f = .fn g caps) (hc : C g = some con) (h : (opR P C top (ev tm) (.call c)).go st fun v st' => K v st' (top + 1)) : wop P C H top tm st (.call c) K := by
  simp only [wop, hv, hf, hc]
  exact h
theorem wop_inl {c : Call} {f : Operand} {g : FuncId} {caps : List V} {K : V → ST → Nat → Prop} (hv : c.callee = .value f) (hf : ev tm f = .fn g caps) (hc : C g = none) (h : H (.fn g caps) (c.args.toList.map (ev tm)) st top K) : wop P C H top tm st (.call c) K := by
  simp only [wop, hv, hf, hc]
  exact h
theorem wop_yld {c : Call} {f : Operand} {b : Nat} {K : V → ST → Nat → Prop} (hv : c.callee = .value f) (hf : ev tm f = .yld b) (h : H (.yld b) (c.args.toList.map (ev tm)) st top K) : wop P C H top tm st (.call c) K := by
  simp only [wop, hv, hf]
  exact h

def wopsK (P : Program) (C : FuncId → Option Con) (H : WH) (sz : Nat) (all os : List Oper) (tm : TM) (dst : Option Nat) (K : TM → ST → Nat → Prop) (v : V) (st : ST) (top : Nat) : Prop := wops P C H sz all os top (putT tm dst v) st K
theorem wops_k {all os : List Oper} {dst : Option Nat} {K : TM → ST → Nat → Prop} {v : V} (h : wops P C H sz all os top (putT tm dst v) st K) : wopsK P C H sz all os tm dst K v st top := h
theorem wops_nil {all : List Oper} {K : TM → ST → Nat → Prop} (h : K tm st top) : wops P C H sz all [] top tm st K := h
theorem wops_cons {all : List Oper} {o : Oper} {os : List Oper} {K : TM → ST → Nat → Prop} (hd : okDst sz o.dst = true) (hg : o.guard = none)
    (h : wop P C H top tm st o.op (wopsK P C H sz all os tm o.dst K)) : wops P C H sz all (o :: os) top tm st K := by
  unfold wops
  simp only [hd, hg]
  exact h
theorem wops_take {all : List Oper} {o : Oper} {os : List Oper} {K : TM → ST → Nat → Prop} {j d : Nat} {want : Bool} (hd : okDst sz o.dst = true) (hg : o.guard = some (j, want)) (hj : (all[j]?).bind (·.dst) = some d) (hl : (look tm d).getD .top = .v (.bool want))
    (h : wop P C H top tm st o.op (wopsK P C H sz all os tm o.dst K)) : wops P C H sz all (o :: os) top tm st K := by
  unfold wops
  simp only [hd, hg, hj, hl]
  cases want with
  | true => exact h
  | false => exact h
theorem wops_skip {all : List Oper} {o : Oper} {os : List Oper} {K : TM → ST → Nat → Prop} {j d : Nat} {want : Bool} (hd : okDst sz o.dst = true) (hg : o.guard = some (j, want)) (hj : (all[j]?).bind (·.dst) = some d) (hl : (look tm d).getD .top = .v (.bool !want))
    (h : wops P C H sz all os (top + 1) (putT tm o.dst vU) st K) : wops P C H sz all (o :: os) top tm st K := by
  unfold wops
  simp only [hd, hg, hj, hl]
  cases want with
  | true => exact h
  | false => exact h
theorem wops_skipU {all : List Oper} {o : Oper} {os : List Oper} {K : TM → ST → Nat → Prop} {j d : Nat} {want : Bool} {arr : Array Value} (hd : okDst sz o.dst = true) (hg : o.guard = some (j, want)) (hj : (all[j]?).bind (·.dst) = some d) (hl : (look tm d).getD .top = .v (.tuple arr))
    (h : wops P C H sz all os (top + 1) (putT tm o.dst vU) st K) : wops P C H sz all (o :: os) top tm st K := by
  unfold wops
  simp only [hd, hg, hj, hl]
  exact h

/-! code -/
def wseqK (P : Program) (C : FuncId → Option Con) (H : WH) (sz pins : Nat) (rd : Option Nat) (b : Code) (Q : AX → XS → Prop) (e : AX) (s : XS) : Prop := match e with
  | .normal => wcode P C H sz pins rd b Q s
  | e => Q e s
def wblockK (id : Nat) (Q : AX → XS → Prop) (e : AX) (s : XS) : Prop := match e with
  | .exit j => match decide (j = id) with
    | true => Q .normal s
    | false => Q (.exit j) s
  | e => Q e s
def wloopK (pins : Nat) (ds : List Nat) (rd : Option Nat) {α : Type} (mk : α → LS) (μ : α → Nat) (x : α) (Q : AX → XS → Prop) (e : AX) (s : XS) : Prop := match e with
  | .normal => s.ds = ds ∧ ∃ y r, SubF pins ds rd r (mk y).tm (mk y).st (mk y).nx s.tm s.st ∧ μ y < μ x
  | e => ∃ n, s.nx ≤ n ∧ Q e ⟨s.tm, s.ds, s.st, n, s.b0⟩
def wfnK (P : Program) (fn : Func) (K : V → ST → Nat → Prop) (e : AX) (s : XS) : Prop := match e with
  | .exit _ => False
  | _ => match xmarks s.ds s.st with
    | none => False
    | some st1 => wres P fn s.tm st1 fun r st2 => K r st2 s.nx
def wbodyK (b : Nat) (K : V → ST → Nat → Prop) (e : AX) (s2 : XS) : Prop := match look s2.st b with
  | some (.loop r2) => match e with
    | .normal => K (.v (.bool true)) ((b, .loop { r2 with state := .ready, pending := none }) :: s2.st) s2.nx
    | .exit i => K (.v (.bool false)) ((b, .loop { r2 with state := .done, pending := some (.exit i) }) :: s2.st) s2.nx
    | .ret => K (.v (.bool false)) ((b, .loop { r2 with state := .done, pending := some .ret }) :: s2.st) s2.nx
  | _ => False
def wasgK (P : Program) (C : FuncId → Option Con) (H : WH) (sz pins b : Nat) (body : Code) (K : V → ST → Nat → Prop) (e : AX) (s1 : XS) : Prop := match e with
  | .normal => match look s1.st b with
    | some (.loop r1) => match isReady r1.state with
      | true => wcode P C H sz pins (some b) body (wbodyK b K) ⟨s1.tm, s1.ds, (b, .loop { r1 with state := .busy }) :: s1.st, s1.nx, s1.b0⟩
      | false => False
    | _ => False
  | _ => False
def wrangeK (b : Nat) (tm : TM) (ds : List Nat) (b0 : Nat) (Q : AX → XS → Prop) (_ : V) (st2 : ST) (nx2 : Nat) : Prop := match look st2 b with
  | some (.loop r2) => match isBusy r2.state with
    | true => False
    | false => match r2.pending with
      | none => Q .normal ⟨tm, ds, (b, .loop { r2 with state := .exhausted }) :: st2, nx2, b0⟩
      | some (.exit i) => Q (.exit i) ⟨tm, ds, (b, .loop { r2 with state := .exhausted }) :: st2, nx2, b0⟩
      | some .ret => Q .ret ⟨tm, ds, (b, .loop { r2 with state := .exhausted }) :: st2, nx2, b0⟩
      | _ => False
  | _ => False

variable {Q : AX → XS → Prop} {a b c : Code}
theorem ws_skip (h : Q .normal ⟨tm, ds, st, nx, b0⟩) : wcode P C H sz pins rd .skip Q ⟨tm, ds, st, nx, b0⟩ := h
def wregK (Q : AX → XS → Prop) (ds : List Nat) (b0 : Nat) (tm : TM) (st : ST) (nx : Nat) : Prop := Q .normal ⟨tm, ds, st, nx, b0⟩
theorem w_reg (h : Q .normal ⟨tm, ds, st, nx, b0⟩) : wregK Q ds b0 tm st nx := h
def wregDK (Q : AX → XS → Prop) (ds : List Nat) (b0 nx : Nat) (tm : TM) (st : ST) : Prop := Q .normal ⟨tm, ds, st, nx, b0⟩
theorem w_regD (h : Q .normal ⟨tm, ds, st, nx, b0⟩) : wregDK Q ds b0 nx tm st := h
theorem ws_region {i : Nat} {ops : Array Oper} {l : List Oper} (hl : ops.toList = l) (h : wops P C H sz l l nx tm st (wregK Q ds b0)) : wcode P C H sz pins rd (.region i ops false) Q ⟨tm, ds, st, nx, b0⟩ := by
  subst hl
  exact h
theorem ws_regionD {i : Nat} {ops : Array Oper} {nx' : Nat} (ha : aheadB ops.toList = true) (hn : nx + ops.size = nx') (h : evOpsD P C sz ops nx ops.toList 0 tm st [] (wregDK Q ds b0 nx')) : wcode P C H sz pins rd (.region i ops true) Q ⟨tm, ds, st, nx, b0⟩ := by
  subst hn
  simp only [wcode, ha]
  exact h
theorem ws_seq (h : wcode P C H sz pins rd a (wseqK P C H sz pins rd b Q) ⟨tm, ds, st, nx, b0⟩) : wcode P C H sz pins rd (.seq a b) Q ⟨tm, ds, st, nx, b0⟩ := h
theorem ws_cond {x : Operand} {p : Bool} (hc : ev tm x = .v (.bool p)) (h1 : p = true → wcode P C H sz pins rd a Q ⟨tm, ds, st, nx, b0⟩) (h2 : p = false → wcode P C H sz pins rd b Q ⟨tm, ds, st, nx, b0⟩) : wcode P C H sz pins rd (.cond x a b) Q ⟨tm, ds, st, nx, b0⟩ := by
  simp only [wcode, hc]
  exact br_intro h1 h2
theorem ws_condT {x : Operand} (hc : ev tm x = .v (.bool true)) (h1 : wcode P C H sz pins rd a Q ⟨tm, ds, st, nx, b0⟩) : wcode P C H sz pins rd (.cond x a b) Q ⟨tm, ds, st, nx, b0⟩ := ws_cond hc (fun _ => h1) (fun e => by cases e)
theorem ws_condF {x : Operand} (hc : ev tm x = .v (.bool false)) (h1 : wcode P C H sz pins rd b Q ⟨tm, ds, st, nx, b0⟩) : wcode P C H sz pins rd (.cond x a b) Q ⟨tm, ds, st, nx, b0⟩ := ws_cond hc (fun e => by cases e) (fun _ => h1)
theorem ws_block {i : Nat} (h : wcode P C H sz pins rd a (wblockK i Q) ⟨tm, ds, st, nx, b0⟩) : wcode P C H sz pins rd (.block i a) Q ⟨tm, ds, st, nx, b0⟩ := h
theorem ws_exit {i : Nat} (h : Q (.exit i) ⟨tm, ds, st, nx, b0⟩) : wcode P C H sz pins rd (.exit i) Q ⟨tm, ds, st, nx, b0⟩ := h
theorem ws_ret (h : Q .ret ⟨tm, ds, st, nx, b0⟩) : wcode P C H sz pins rd .ret Q ⟨tm, ds, st, nx, b0⟩ := h
theorem ws_loop {α : Type} {mk : α → LS} {μ : α → Nat} (h0 : ∃ x r, SubF pins ds rd r (mk x).tm (mk x).st (mk x).nx tm st) (h : ∀ x, wcode P C H sz pins rd a (wloopK pins ds rd mk μ x Q) ⟨(mk x).tm, ds, (mk x).st, (mk x).nx, b0⟩) : wcode P C H sz pins rd (.loop a) Q ⟨tm, ds, st, nx, b0⟩ := ⟨α, mk, μ, h0, h⟩
/-- A range over a function, outside rounds and within. -/
theorem ws_range0 {f : Operand} {ps : Array Tmp} {asg body : Code} {g : FuncId} {caps : List V} (hf : ev tm f = .fn g caps)
    (h : H (.fn g caps) [.yld nx] ((nx, .loop ⟨tm, sz, ps, asg, body, .ready, none⟩) :: (nx + 1, .mark true) :: st) (nx + 2) (wrangeK nx tm ((nx + 1) :: ds) b0 Q)) : wcode P C H sz pins none (.rangeFunc f ps asg body) Q ⟨tm, ds, st, nx, b0⟩ := by
  simp only [wcode, xenter, hf]
  exact h
theorem ws_range1 {rb : Nat} {f : Operand} {ps : Array Tmp} {asg body : Code} {g : FuncId} {caps : List V} {r0 : LoopX} (hf : ev tm f = .fn g caps) (hr : look st rb = some (.loop r0))
    (h : H (.fn g caps) [.yld nx] ((nx, .loop ⟨tm, sz, ps, asg, body, .ready, none⟩) :: st) (nx + 1) (wrangeK nx tm ds b0 Q)) : wcode P C H sz pins (some rb) (.rangeFunc f ps asg body) Q ⟨tm, ds, st, nx, b0⟩ := by
  simp only [wcode, xenter, hf, hr]
  exact h

theorem kw_seq (h : wcode P C H sz pins rd b Q ⟨tm, ds, st, nx, b0⟩) : wseqK P C H sz pins rd b Q .normal ⟨tm, ds, st, nx, b0⟩ := h
theorem kw_seqX {i : Nat} (h : Q (.exit i) ⟨tm, ds, st, nx, b0⟩) : wseqK P C H sz pins rd b Q (.exit i) ⟨tm, ds, st, nx, b0⟩ := h
theorem kw_seqR (h : Q .ret ⟨tm, ds, st, nx, b0⟩) : wseqK P C H sz pins rd b Q .ret ⟨tm, ds, st, nx, b0⟩ := h
theorem kw_block {i : Nat} (h : Q .normal ⟨tm, ds, st, nx, b0⟩) : wblockK i Q .normal ⟨tm, ds, st, nx, b0⟩ := h
theorem kw_blockX {i : Nat} (h : Q .normal ⟨tm, ds, st, nx, b0⟩) : wblockK i Q (.exit i) ⟨tm, ds, st, nx, b0⟩ := by simp only [wblockK, decide_true]; exact h
theorem kw_blockY {i j : Nat} (hj : decide (j = i) = false) (h : Q (.exit j) ⟨tm, ds, st, nx, b0⟩) : wblockK i Q (.exit j) ⟨tm, ds, st, nx, b0⟩ := by simp only [wblockK, hj]; exact h
theorem kw_blockR {i : Nat} (h : Q .ret ⟨tm, ds, st, nx, b0⟩) : wblockK i Q .ret ⟨tm, ds, st, nx, b0⟩ := h
theorem kw_loopX {α : Type} {mk : α → LS} {μ : α → Nat} {x : α} {i : Nat} (n : Nat) (hn : nx ≤ n) (h : Q (.exit i) ⟨tm, ds, st, n, b0⟩) {ds' : List Nat} : wloopK pins ds' rd mk μ x Q (.exit i) ⟨tm, ds, st, nx, b0⟩ := ⟨n, hn, h⟩
theorem kw_loopR {α : Type} {mk : α → LS} {μ : α → Nat} {x : α} (n : Nat) (hn : nx ≤ n) (h : Q .ret ⟨tm, ds, st, n, b0⟩) {ds' : List Nat} : wloopK pins ds' rd mk μ x Q .ret ⟨tm, ds, st, nx, b0⟩ := ⟨n, hn, h⟩

theorem kw_fn1 {fn : Func} {K : V → ST → Nat → Prop} {t : Nat} {st1 : ST} {e : AX} (he : (match e with | .exit _ => false | _ => true) = true) (hr : fn.results.toList = [.tmp t]) (hm : xmarks ds st = some st1) (h : (RM.retF ((look tm t).getD .top)).go st1 fun r st2 => K r st2 nx) : wfnK P fn K e ⟨tm, ds, st, nx, b0⟩ := by
  rw [RM.retF_eq] at h
  cases e with
  | exit i => cases he
  | normal => simp only [wfnK, hm, wres, hr]; exact h
  | ret => simp only [wfnK, hm, wres, hr]; exact h
theorem kw_fnC {fn : Func} {K : V → ST → Nat → Prop} {t a : Nat} {st1 : ST} {e : AX} (he : (match e with | .exit _ => false | _ => true) = true) (hr : fn.results.toList = [.cell a t]) (hm : xmarks ds st = some st1) (h : (loadR P t (ev tm (.tmp a))).go st1 fun r st2 => K r st2 nx) : wfnK P fn K e ⟨tm, ds, st, nx, b0⟩ := by
  cases e with
  | exit i => cases he
  | normal => simp only [wfnK, hm, wres, hr]; exact h
  | ret => simp only [wfnK, hm, wres, hr]; exact h
def sing : List ResultVar → Bool
  | [_] => true
  | _ => false
theorem kw_fnN {fn : Func} {K : V → ST → Nat → Prop} {l : List ResultVar} {st1 : ST} {e : AX} (he : (match e with | .exit _ => false | _ => true) = true) (hr : fn.results.toList = l) (hs : sing l = false) (hm : xmarks ds st = some st1) (h : (resR P tm l []).go st1 fun r st2 => K r st2 nx) : wfnK P fn K e ⟨tm, ds, st, nx, b0⟩ := by
  have hw : wres P fn tm st1 fun r st2 => K r st2 nx := by
    unfold wres
    rw [hr]
    split
    · cases hs
    · cases hs
    · exact h
  cases e with
  | exit i => cases he
  | normal => simp only [wfnK, hm]; exact hw
  | ret => simp only [wfnK, hm]; exact hw

/-! calls that are followed -/
variable {G : XG} {n : Nat}
theorem w_fn {g : FuncId} {caps avs : List V} {fn : Func} {code : Code} {K : V → ST → Nat → Prop} (hg : G g = some fn) (hb : fn.body = some code) (hl : Nat.ble (avs ++ caps).length fn.ntmps = true) (h : wcode P C (wcall P C G n) fn.ntmps top none code (wfnK P fn K) ⟨startT (avs ++ caps), [], st, top, top⟩) : wcall P C G (n + 1) (.fn g caps) avs st top K := by
  simp only [wcall, hg, hb, wfn, hl]
  exact h
theorem w_yld {b : Nat} {avs : List V} {r : LoopX} {K : V → ST → Nat → Prop} (hl : look st b = some (.loop r)) (hr : isReady r.state = true) (ha : (Nat.beq avs.length r.ps.size && r.ps.toList.all fun p => Nat.ble (p + 1) r.sz) = true)
    (h : wcode P C (wcall P C G n) r.sz top (some b) r.assign (wasgK P C (wcall P C G n) r.sz top b r.body K) ⟨(r.ps.toList.zip avs).foldl (fun t p => p :: t) r.tm, [], st, top, top⟩) : wcall P C G (n + 1) (.yld b) avs st top K := by
  simp only [wcall, wround, hl, hr, ha]
  exact h
theorem w_asg {bx : Nat} {body : Code} {K : V → ST → Nat → Prop} {r1 : LoopX} (hl : look st bx = some (.loop r1)) (hr : isReady r1.state = true) (h : wcode P C H sz pins (some bx) body (wbodyK bx K) ⟨tm, ds, (bx, .loop { r1 with state := .busy }) :: st, nx, b0⟩) : wasgK P C H sz pins bx body K .normal ⟨tm, ds, st, nx, b0⟩ := by
  simp only [wasgK, hl, hr]
  exact h
theorem w_bodyN {bx : Nat} {K : V → ST → Nat → Prop} {r2 : LoopX} (hl : look st bx = some (.loop r2)) (h : K (.v (.bool true)) ((bx, .loop { r2 with state := .ready, pending := none }) :: st) nx) : wbodyK bx K .normal ⟨tm, ds, st, nx, b0⟩ := by
  simp only [wbodyK, hl]
  exact h
theorem w_bodyX {bx i : Nat} {K : V → ST → Nat → Prop} {r2 : LoopX} (hl : look st bx = some (.loop r2)) (h : K (.v (.bool false)) ((bx, .loop { r2 with state := .done, pending := some (.exit i) }) :: st) nx) : wbodyK bx K (.exit i) ⟨tm, ds, st, nx, b0⟩ := by
  simp only [wbodyK, hl]
  exact h
theorem w_bodyR {bx : Nat} {K : V → ST → Nat → Prop} {r2 : LoopX} (hl : look st bx = some (.loop r2)) (h : K (.v (.bool false)) ((bx, .loop { r2 with state := .done, pending := some .ret }) :: st) nx) : wbodyK bx K .ret ⟨tm, ds, st, nx, b0⟩ := by
  simp only [wbodyK, hl]
  exact h
theorem w_rangeN {bx : Nat} {r2 : LoopX} {v : V} (hl : look st bx = some (.loop r2)) (hb : isBusy r2.state = false) (hp : r2.pending = none) (h : Q .normal ⟨tm, ds, (bx, .loop { r2 with state := .exhausted }) :: st, nx, b0⟩) : wrangeK bx tm ds b0 Q v st nx := by
  obtain ⟨t, z, q, a', b', z2, pn⟩ := r2
  simp only at hp hb
  subst hp
  simp only [wrangeK, hl, hb]
  exact h
theorem w_rangeX {bx i : Nat} {r2 : LoopX} {v : V} (hl : look st bx = some (.loop r2)) (hb : isBusy r2.state = false) (hp : r2.pending = some (.exit i)) (h : Q (.exit i) ⟨tm, ds, (bx, .loop { r2 with state := .exhausted }) :: st, nx, b0⟩) : wrangeK bx tm ds b0 Q v st nx := by
  obtain ⟨t, z, q, a', b', z2, pn⟩ := r2
  simp only at hp hb
  subst hp
  simp only [wrangeK, hl, hb]
  exact h
theorem w_rangeR {bx : Nat} {r2 : LoopX} {v : V} (hl : look st bx = some (.loop r2)) (hb : isBusy r2.state = false) (hp : r2.pending = some .ret) (h : Q .ret ⟨tm, ds, (bx, .loop { r2 with state := .exhausted }) :: st, nx, b0⟩) : wrangeK bx tm ds b0 Q v st nx := by
  obtain ⟨t, z, q, a', b', z2, pn⟩ := r2
  simp only at hp hb
  subst hp
  simp only [wrangeK, hl, hb]
  exact h

theorem ws_condTH {x : Operand} {p : Bool} (hp : p = true) (hc : ev tm x = .v (.bool p)) (h1 : wcode P C H sz pins rd a Q ⟨tm, ds, st, nx, b0⟩) : wcode P C H sz pins rd (.cond x a b) Q ⟨tm, ds, st, nx, b0⟩ := ws_condT (by rw [hc, hp]) h1
theorem ws_condFH {x : Operand} {p : Bool} (hp : p = false) (hc : ev tm x = .v (.bool p)) (h1 : wcode P C H sz pins rd b Q ⟨tm, ds, st, nx, b0⟩) : wcode P C H sz pins rd (.cond x a b) Q ⟨tm, ds, st, nx, b0⟩ := ws_condF (by rw [hc, hp]) h1

/-! loops -/
section loops
variable {S E R Γ : Type}
def atK (L : LoopD S E Γ) (kp : ST) (s : S) (g : Γ) : LS := ⟨(L.at_ s g).tm, (L.at_ s g).st ++ kp, (L.at_ s g).nx⟩
theorem ws_loopF {L : LoopD S E Γ} {K : E → Option R} {r : R} {s0 : S} {c : Code} (hF : (loopC L.step s0).bind K = some r) (g0 : Γ) (ren : List (Nat × Nat)) (keep : List Nat) (hs : SubF pins ds rd ren (atK L (keepB keep st) s0 g0).tm (atK L (keepB keep st) s0 g0).st (atK L (keepB keep st) s0 g0).nx tm st)
    (h : ∀ (n : Nat) (s : S) (g : Γ) (x : LoopA L.step K r Γ), x.1.1 = n + 1 → (L.step s).bind (nextF L.step K n) = some r → wcode P C H sz pins rd c (wloopK pins ds rd (fun y : LoopA L.step K r Γ => atK L (keepB keep st) y.1.2.1 y.1.2.2) (fun y => y.1.1) x Q) ⟨(L.at_ s g).tm, ds, (L.at_ s g).st ++ keepB keep st, (L.at_ s g).nx, b0⟩) : wcode P C H sz pins rd (.loop c) Q ⟨tm, ds, st, nx, b0⟩ := by
  obtain ⟨e, he, hk⟩ : ∃ e, loopC L.step s0 = some e ∧ K e = some r := by
    cases hl : loopC L.step s0 with
    | none => rw [hl] at hF; cases hF
    | some e => rw [hl] at hF; exact ⟨e, rfl, hF⟩
  obtain ⟨n, hn⟩ := loopC_ex he
  refine ws_loop (α := LoopA L.step K r Γ) (mk := fun y => atK L (keepB keep st) y.1.2.1 y.1.2.2) (μ := fun y => y.1.1) ⟨⟨(n, s0, g0), by rw [hn]; exact hk⟩, ren, hs⟩ ?_
  rintro ⟨⟨n, s, g⟩, hx⟩
  cases n with
  | zero => cases hx
  | succ n =>
    refine h n s g ⟨(n + 1, s, g), hx⟩ rfl ?_
    simp only [loopN] at hx
    cases hs : L.step s with
    | none => rw [hs] at hx; cases hx
    | some o =>
      rw [hs] at hx
      cases o with
      | inl s' => exact hx
      | inr e => exact hx
theorem kw_loopF {L : LoopD S E Γ} {K : E → Option R} {r : R} {x : LoopA L.step K r Γ} {n : Nat} {s' : S} {kp : ST} (hF : nextF L.step K n (.inl s') = some r) (hx : x.1.1 = n + 1) (g' : Γ) (ren : List (Nat × Nat))
    (hs : SubF pins ds rd ren (atK L kp s' g').tm (atK L kp s' g').st (atK L kp s' g').nx tm st) : wloopK pins ds rd (fun y : LoopA L.step K r Γ => atK L kp y.1.2.1 y.1.2.2) (fun y => y.1.1) x Q .normal ⟨tm, ds, st, nx, b0⟩ :=
  ⟨rfl, (⟨(n, s', g'), hF⟩ : LoopA L.step K r Γ), ren, hs, by show n < x.1.1; omega⟩
end loops
end
/-- The boxes at a loop's head. -/
theorem sW {p : Prop} (c : p := by (repeat (first | exact trivial | refine And.intro (Or.inl ⟨_, _, rfl, rfl, rfl⟩) ?_ | refine And.intro (Or.inr (Or.inl rfl)) ?_ | refine And.intro (Or.inr (Or.inr (Or.inl ⟨_, _, _, _, rfl, rfl, rfl, sC⟩))) ?_ | refine And.intro (Or.inr (Or.inr (Or.inr ⟨rfl, rfl, trivial⟩))) ?_ | refine And.intro (Or.inr (Or.inr (Or.inr ⟨rfl, rfl, rfl⟩))) ?_))) : p := c
/-- All steps that no fact is needed for. -/
theorem sw1 {p q : Prop} (h : q) (c : q → p := by (intro h; (repeat (first | ((with_reducible refine go_ret ?_)) | ((with_reducible refine go_put ?_); (conv => arg 1; whnf)) | ((with_reducible apply go_get); exact rfl; (conv => arg 1; whnf)) | ((with_reducible refine go_req ?_ ?_); exact (of_decide_eq_true rfl); (conv => arg 1; whnf)) | ((with_reducible refine go_req ?_ ?_); exact trivial; (conv => arg 1; whnf)) | ((with_reducible refine go_req ?_ ?_); exact rfl; (conv => arg 1; whnf)) | ((with_reducible refine go_req ?_ ?_); exact (rlen (by intro _; rfl) _); (conv => arg 1; whnf)) | ((with_reducible refine go_req ?_ ?_); exact ⟨rlen (by intro _; rfl) _, by decide⟩; (conv => arg 1; whnf)) | ((with_reducible refine go_reqP ?_ ?_); exact rfl; (conv => arg 1; whnf)) | ((with_reducible refine ops_nil ?_)) | ((with_reducible refine ops_cons ?_ ?_ ?_); exact rfl; exact rfl; (conv => arg 1; whnf)) | ((with_reducible apply ops_take); exact rfl; exact rfl; exact rfl; exact rfl; (conv => arg 1; whnf)) | ((with_reducible apply ops_skip); exact rfl; exact rfl; exact rfl; exact rfl) | ((with_reducible apply ops_skipU); exact rfl; exact rfl; exact rfl; exact rfl) | ((with_reducible refine goT_ret ?_)) | ((with_reducible refine goT_put ?_); (conv => arg 1; whnf)) | ((with_reducible apply goT_get); exact rfl; (conv => arg 1; whnf)) | ((with_reducible refine goT_req ?_ ?_); exact (of_decide_eq_true rfl); (conv => arg 1; whnf)) | ((with_reducible refine goT_req ?_ ?_); exact trivial; (conv => arg 1; whnf)) | ((with_reducible refine goT_req ?_ ?_); exact rfl; (conv => arg 1; whnf)) | ((with_reducible refine goT_req ?_ ?_); exact (rlen (by intro _; rfl) _); (conv => arg 1; whnf)) | ((with_reducible refine goT_req ?_ ?_); exact ⟨rlen (by intro _; rfl) _, by decide⟩; (conv => arg 1; whnf)) | ((with_reducible refine goT_reqP ?_ ?_); exact rfl; (conv => arg 1; whnf)) | ((with_reducible refine d_step ?_ ?_); kernel_rfl) | ((with_reducible refine d_nil ?_)) | ((with_reducible refine d_cons ?_ ?_ ?_); exact rfl; exact rfl; (conv => arg 1; whnf)) | ((conv => arg 6; whnf); (with_reducible refine d_cons ?_ ?_ ?_); exact rfl; exact rfl; (conv => arg 1; whnf)) | ((conv => arg 5; whnf); (with_reducible refine ops_cons ?_ ?_ ?_); exact rfl; exact rfl; (conv => arg 1; whnf)) | ((with_reducible apply d_take); exact rfl; exact rfl; exact rfl; exact rfl; (conv => arg 1; whnf)) | ((with_reducible apply d_skip); exact rfl; exact rfl; exact rfl; exact rfl; (first | exact rfl | kernel_rfl)) | ((with_reducible apply d_skipU); exact rfl; exact rfl; exact rfl; exact rfl; (first | exact rfl | kernel_rfl)) | ((conv => arg 6; whnf); (with_reducible apply d_take); exact rfl; exact rfl; exact rfl; exact rfl; (conv => arg 1; whnf)) | ((conv => arg 6; whnf); (with_reducible apply d_skip); exact rfl; exact rfl; exact rfl; exact rfl; (first | exact rfl | kernel_rfl)) | ((with_reducible refine st_regionD ?_ ?_); kernel_rfl; (conv => arg 6; whnf)) | ((with_reducible refine st_seq ?_)) | ((with_reducible refine st_region rfl rfl ?_); (conv => arg 5; whnf)) | ((with_reducible refine st_block ?_)) | ((with_reducible refine st_skip ?_)) | ((with_reducible refine st_exit ?_)) | ((with_reducible refine st_ret ?_)) | ((with_reducible refine k_seq ?_)) | ((with_reducible refine k_seqX ?_)) | ((with_reducible refine k_seqR ?_)) | ((with_reducible refine k_block ?_)) | ((with_reducible refine k_blockX ?_)) | ((with_reducible refine k_blockY ?_ ?_); exact rfl) | ((with_reducible refine k_blockR ?_)) | ((with_reducible refine k_loopX ?_)) | ((with_reducible refine k_loopR ?_)) | ((with_reducible refine st_condT ?_ ?_); exact rfl) | ((with_reducible refine st_condF ?_ ?_); exact rfl) | ((with_reducible refine wops_k ?_)) | ((with_reducible refine w_reg ?_)) | ((with_reducible refine w_regD ?_)) | ((with_reducible refine wops_nil ?_)) | ((with_reducible refine wops_cons ?_ ?_ ?_); exact rfl; exact rfl) | ((conv => arg 5; whnf); (with_reducible refine wops_cons ?_ ?_ ?_); exact rfl; exact rfl) | ((with_reducible apply wops_take); exact rfl; exact rfl; exact rfl; exact rfl) | ((with_reducible apply wops_skip); exact rfl; exact rfl; exact rfl; exact rfl) | ((with_reducible apply wops_skipU); exact rfl; exact rfl; exact rfl; exact rfl) | ((with_reducible refine wop_plain ?_ ?_); exact rfl; (conv => arg 1; whnf)) | ((with_reducible apply wop_con); exact rfl; exact rfl; exact rfl; (conv => arg 1; whnf)) | ((with_reducible apply wop_inl); exact rfl; exact rfl; exact rfl) | ((with_reducible apply wop_yld); exact rfl; exact rfl) | ((with_reducible refine ws_seq ?_)) | ((with_reducible refine ws_block ?_)) | ((with_reducible refine ws_skip ?_)) | ((with_reducible refine ws_exit ?_)) | ((with_reducible refine ws_ret ?_)) | ((with_reducible refine ws_region rfl ?_); (conv => arg 5; whnf)) | ((with_reducible refine ws_regionD ?_ rfl ?_); kernel_rfl; (conv => arg 6; whnf)) | ((with_reducible refine kw_seq ?_)) | ((with_reducible refine kw_seqX ?_)) | ((with_reducible refine kw_seqR ?_)) | ((with_reducible refine kw_block ?_)) | ((with_reducible refine kw_blockX ?_)) | ((with_reducible refine kw_blockY ?_ ?_); exact rfl) | ((with_reducible refine kw_blockR ?_)) | ((with_reducible refine ws_condT ?_ ?_); exact rfl) | ((with_reducible refine ws_condF ?_ ?_); exact rfl) | ((with_reducible apply ws_range0); exact rfl) | ((with_reducible apply ws_range1); exact rfl; exact rfl) | ((with_reducible apply w_fn); exact rfl; exact rfl; exact rfl) | ((with_reducible apply w_yld); exact rfl; exact rfl; exact rfl; (conv => arg 7; whnf); (conv => arg 9; whnf)) | ((with_reducible apply w_asg); exact rfl; exact rfl) | ((with_reducible apply w_bodyN); exact rfl) | ((with_reducible apply w_bodyX); exact rfl) | ((with_reducible apply w_bodyR); exact rfl) | ((with_reducible apply w_rangeN); exact rfl; exact rfl; exact rfl) | ((with_reducible apply w_rangeX); exact rfl; exact rfl; exact rfl) | ((with_reducible apply w_rangeR); exact rfl; exact rfl; exact rfl) | ((with_reducible apply kw_fn1); exact rfl; exact rfl; exact rfl; (conv => arg 1; whnf)) | ((with_reducible apply kw_fnC); exact rfl; exact rfl; exact rfl; (conv => arg 1; whnf)) | ((with_reducible apply kw_fnN); exact rfl; exact rfl; exact rfl; exact rfl; (conv => arg 1; whnf)))); exact h)) : p := c h

theorem hasIF {P : Program} {C : FuncId → Option Con} {G : XG} (hC : CtxOK P C) (hG : GOK P G) (hmix : P.follows .mixedOrders = true) (n : Nat) {f : FuncId} {fn : Func} {c : Code} (hf : P.funcs[f]? = some fn) (hb : fn.body = some c)
    (hn : (fn.name == "runtime.NumGoroutine") = false) {α β : Type} {F : α → Option β} {enc : α → List V} {er : β → V}
    (h : ∀ x r, (F x).bind some = some r → Nat.ble (enc x).length fn.ntmps = true ∧ wcode P C (wcall P C G n) fn.ntmps 0 none c (wfnK P fn (endI (er r))) ⟨startT (enc x), [], [], 0, 0⟩) : Has P f (conF F enc er) :=
  hasI hC hG hmix n hf hb hn fun x r hF => by
    obtain ⟨h1, h2⟩ := h x r hF
    unfold wfn
    rw [h1]
    exact h2
end Go.Ev
/- Elements of arrays, by an index that is not written: by cases. -/
namespace Go.Ev
theorem ib_ok {j : Int} {c n : Nat} (e : j = (c : Int)) (hc : decide (c < n) = true) : 0 ≤ j ∧ j < (n : Int) := by
  have := of_decide_eq_true hc
  omega
theorem ib_nat {j : Int} {c : Nat} (e : j = (c : Int)) : j.toNat = c := by omega
variable {P : Program} {st : ST} {rs ws : List Nat}
theorem o_ib {K : V → ST → Prop} {j : Int} {c n b off size : Nat} {d : Decidable (0 ≤ j ∧ j < (n : Int))} (e : j = (c : Int)) (hc : decide (c < n) = true)
    (h : (RM.ret (.box b (off + c * size))).go st K) : (@RM.dec (0 ≤ j ∧ j < (n : Int)) (.ret (.box b (off + j.toNat * size))) d).go st K :=
  go_req (ib_ok e hc) (by rw [ib_nat e]; exact h)
theorem o_ibT {K : V → ST → List Nat → List Nat → Prop} {j : Int} {c n b off size : Nat} {d : Decidable (0 ≤ j ∧ j < (n : Int))} (e : j = (c : Int)) (hc : decide (c < n) = true)
    (h : (RM.ret (.box b (off + c * size))).goT st rs ws K) : (@RM.dec (0 ≤ j ∧ j < (n : Int)) (.ret (.box b (off + j.toNat * size))) d).goT st rs ws K :=
  goT_req (ib_ok e hc) (by rw [ib_nat e]; exact h)
theorem o_ix {K : V → ST → Prop} {j : Int} {c n size : Nat} {t : TypeId} {cs : List V} {f : V → RM} {d : Decidable (0 ≤ j ∧ j < (n : Int))} (e : j = (c : Int)) (hc : decide (c < n) = true)
    (h : (takeR P t cs (c * size) f).go st K) : (@RM.dec (0 ≤ j ∧ j < (n : Int)) (takeR P t cs (j.toNat * size) f) d).go st K :=
  go_req (ib_ok e hc) (by rw [ib_nat e]; exact h)
theorem o_ixT {K : V → ST → List Nat → List Nat → Prop} {j : Int} {c n size : Nat} {t : TypeId} {cs : List V} {f : V → RM} {d : Decidable (0 ≤ j ∧ j < (n : Int))} (e : j = (c : Int)) (hc : decide (c < n) = true)
    (h : (takeR P t cs (c * size) f).goT st rs ws K) : (@RM.dec (0 ≤ j ∧ j < (n : Int)) (takeR P t cs (j.toNat * size) f) d).goT st rs ws K :=
  goT_req (ib_ok e hc) (by rw [ib_nat e]; exact h)
/-! stores at two offsets -/
theorem o_stBT {α : Type} {enc : α → List V} {s o n : Nat} {l r : List α} {j : Int} {a x : α} {new : List V} {b : Nat} {e : TypeId} {d : Decidable (new.length = n ∧ j.toNat * s + o + n ≤ (recs enc l).length ∧ 0 ≤ j.toNat * s + o)} {K : V → ST → List Nat → List Nat → Prop} (hi : idx? l j = some a) (h : set? l j x = some r) (he : ∀ a, (enc a).length = s) (ho : o + n ≤ s)
    (hn : new.length = n) (hb : (enc a).take o ++ new ++ (enc a).drop (o + n) = enc x)
    (hk : (RM.ret .top).goT ((b, .row e s (recs enc r) 0) :: st) rs (b :: ws) K) : (@RM.dec (new.length = n ∧ j.toNat * s + o + n ≤ (recs enc l).length ∧ 0 ≤ j.toNat * s + o) (.put b (.row e s ((recs enc l).take (j.toNat * s + o) ++ new ++ (recs enc l).drop (j.toNat * s + o + n)) 0) (.ret .top)) d).goT st rs ws K := by
  obtain ⟨h1, h2⟩ := set_eq (o := o) hi h he ho hn hb
  rw [h2]; exact ⟨h1, hk⟩
theorem o_stC {α : Type} {enc : α → List V} {s o o2 n : Nat} {l r : List α} {j : Int} {a x : α} {new : List V} {b : Nat} {e : TypeId} {d : Decidable (new.length = n ∧ j.toNat * s + o + o2 + n ≤ (recs enc l).length ∧ 0 ≤ j.toNat * s + o + o2)} {K : V → ST → Prop} (hi : idx? l j = some a) (h : set? l j x = some r) (he : ∀ a, (enc a).length = s) (ho : (o + o2) + n ≤ s)
    (hn : new.length = n) (hb : (enc a).take (o + o2) ++ new ++ (enc a).drop ((o + o2) + n) = enc x)
    (hk : (RM.ret .top).go ((b, .row e s (recs enc r) 0) :: st) K) : (@RM.dec (new.length = n ∧ j.toNat * s + o + o2 + n ≤ (recs enc l).length ∧ 0 ≤ j.toNat * s + o + o2) (.put b (.row e s ((recs enc l).take (j.toNat * s + o + o2) ++ new ++ (recs enc l).drop (j.toNat * s + o + o2 + n)) 0) (.ret .top)) d).go st K := by
  obtain ⟨h1, h2⟩ := set_eq (o := (o + o2)) hi h he ho hn hb
  simp only [← Nat.add_assoc] at h1 h2
  rw [h2]; exact ⟨h1, hk⟩
theorem o_stCT {α : Type} {enc : α → List V} {s o o2 n : Nat} {l r : List α} {j : Int} {a x : α} {new : List V} {b : Nat} {e : TypeId} {d : Decidable (new.length = n ∧ j.toNat * s + o + o2 + n ≤ (recs enc l).length ∧ 0 ≤ j.toNat * s + o + o2)} {K : V → ST → List Nat → List Nat → Prop} (hi : idx? l j = some a) (h : set? l j x = some r) (he : ∀ a, (enc a).length = s) (ho : (o + o2) + n ≤ s)
    (hn : new.length = n) (hb : (enc a).take (o + o2) ++ new ++ (enc a).drop ((o + o2) + n) = enc x)
    (hk : (RM.ret .top).goT ((b, .row e s (recs enc r) 0) :: st) rs (b :: ws) K) : (@RM.dec (new.length = n ∧ j.toNat * s + o + o2 + n ≤ (recs enc l).length ∧ 0 ≤ j.toNat * s + o + o2) (.put b (.row e s ((recs enc l).take (j.toNat * s + o + o2) ++ new ++ (recs enc l).drop (j.toNat * s + o + o2 + n)) 0) (.ret .top)) d).goT st rs ws K := by
  obtain ⟨h1, h2⟩ := set_eq (o := (o + o2)) hi h he ho hn hb
  simp only [← Nat.add_assoc] at h1 h2
  rw [h2]; exact ⟨h1, hk⟩
/-- An element of a list that has been written to: it is as long as it was. -/
theorem oidx_len {α : Type} {l l0 : List α} {j : Int} {a : α} {s : Nat} (h : idx? l j = some a) (hl : l.length = l0.length) (hs : 0 < s) : 0 ≤ j ∧ j < (l0.length : Int) ∧ 0 < s := by
  have := oidx_ok h hs
  rw [hl] at this
  exact this
end Go.Ev
/- Lists of lists: what the steps are over data. -/
set_option linter.unusedVariables false
namespace Go.Ev
/-- What follows a loop that is left. -/
theorem e_next {S E R : Type} {step : S → Option (S ⊕ E)} {K : E → Option R} {n : Nat} {e : E} {r : R} (h : nextF step K n (Sum.inr e) = some r) : K e = some r := h
theorem app_val {α : Type} {l m r : List α} {n : Nat} (h : app? l m n = some r) : r = l ++ m := by
  unfold app? at h
  split at h
  · cases h; rfl
  · cases h
theorem eS_len {α : Type} (enc : α → List V) (l : List α) : (eS enc l).length = 1 := rfl
theorem nest_rep {α : Type} (enc : α → List V) (n : Nat) : List.replicate n (V.sl [] 0) = recs (eS enc) (List.replicate n ([] : List α)) := by
  induction n with
  | zero => rfl
  | succ n ih => rw [List.replicate_succ, ih, List.replicate_succ]; rfl
theorem nest_map {α : Type} (enc : α → List V) (l : List (List α)) : recs (eS enc) l = l.map fun y => V.sl (recs enc y) y.length := by
  induction l with
  | nil => rfl
  | cons y l ih => rw [List.map_cons, ← ih]; rfl
theorem nest_get {α : Type} {enc : α → List V} {ls : List (List α)} {j : Int} {a : List α} (h : idx? ls j = some a) : (recs (eS enc) ls)[j.toNat * 1]? = some (.sl (recs enc a) a.length) := by
  obtain ⟨h0, h1, hj, hx⟩ := idx?_lt h
  rw [Nat.mul_one, nest_map, List.getElem?_map, List.getElem?_eq_getElem hj, hx]
  rfl
theorem nest_set {α : Type} {enc : α → List V} {ls r : List (List α)} {j : Int} {x : List α} (h : set? ls j x = some r) : (recs (eS enc) ls).set (j.toNat * 1) (.sl (recs enc x) x.length) = recs (eS enc) r ∧ j.toNat * 1 < (recs (eS enc) ls).length := by
  unfold set? at h
  split at h
  · next hj =>
    cases h
    rw [Nat.mul_one, recs_length (eS_len enc), Nat.mul_one]
    refine ⟨?_, by omega⟩
    rw [nest_map, nest_map, List.map_set]
  · cases h
theorem o_mkn {α : Type} {enc : α → List V} {k : Nat} {n : Int} {r : List (List α)} {id s2 : Nat} {e e2 : TypeId} {st : ST} {d : Decidable (0 ≤ n ∧ n = n ∧ n * k ≤ 281474976710656 ∧ 0 < 1 ∧ n ≤ maxLen)} {K : V → ST → Prop} (h : mk? ([] : List α) n k = some r)
    (hk : (RM.ret (.osl id r.length)).go ((id, .nest e e2 s2 (recs (eS enc) r) []) :: st) K) : (@RM.dec (0 ≤ n ∧ n = n ∧ n * k ≤ 281474976710656 ∧ 0 < 1 ∧ n ≤ maxLen) (.put id (.nest e e2 s2 (List.replicate n.toNat (.sl [] 0)) []) (.ret (.osl id n.toNat))) d).go st K := by
  obtain ⟨h1, h2, h3⟩ := mk_eq (enc := eS enc) (s := 1) h Nat.one_pos
  refine ⟨h1, ?_⟩
  unfold mk? at h
  split at h
  · cases h
    rw [nest_rep enc]
    rw [List.length_replicate] at hk
    exact hk
  · cases h
theorem o_mknT {α : Type} {enc : α → List V} {k : Nat} {n : Int} {r : List (List α)} {id s2 : Nat} {e e2 : TypeId} {st : ST} {rs ws : List Nat} {d : Decidable (0 ≤ n ∧ n = n ∧ n * k ≤ 281474976710656 ∧ 0 < 1 ∧ n ≤ maxLen)} {K : V → ST → List Nat → List Nat → Prop} (h : mk? ([] : List α) n k = some r)
    (hk : (RM.ret (.osl id r.length)).goT ((id, .nest e e2 s2 (recs (eS enc) r) []) :: st) rs (id :: ws) K) : (@RM.dec (0 ≤ n ∧ n = n ∧ n * k ≤ 281474976710656 ∧ 0 < 1 ∧ n ≤ maxLen) (.put id (.nest e e2 s2 (List.replicate n.toNat (.sl [] 0)) []) (.ret (.osl id n.toNat))) d).goT st rs ws K := by
  obtain ⟨h1, h2, h3⟩ := mk_eq (enc := eS enc) (s := 1) h Nat.one_pos
  refine ⟨h1, ?_⟩
  unfold mk? at h
  split at h
  · cases h
    rw [nest_rep enc]
    rw [List.length_replicate] at hk
    exact hk
  · cases h
theorem hole_keep {off : Nat} {h : List Nat} : ∀ i, i ∉ h → i = off ∨ i ∉ h := fun _ e => .inr e
theorem hole_drop {off : Nat} (l1 l2 : List Nat) : ∀ i, i ∉ l1 ++ l2 → i = off ∨ i ∉ l1 ++ off :: l2 := by
  intro i hi
  by_cases e : i = off
  · exact .inl e
  · exact .inr (by simp only [List.mem_append, List.mem_cons, not_or] at hi ⊢; exact ⟨hi.1, e, hi.2⟩)
theorem o_tk {α : Type} {enc : α → List V} {ls : List (List α)} {j : Int} {a : List α} {hole : List Nat} {st : ST} {k : List V × Nat → RM} {K : V → ST → Prop} (h : idx? ls j = some a) (hno : j.toNat * 1 ∉ hole) (hk : (k (recs enc a, a.length)).go st K) :
    (RM.exi (List V × Nat) (fun y => (recs (eS enc) ls)[j.toNat * 1]? = some (.sl y.1 y.2) ∧ j.toNat * 1 ∉ hole) k).go st K := ⟨_, ⟨nest_get h, hno⟩, hk⟩
theorem o_tkT {α : Type} {enc : α → List V} {ls : List (List α)} {j : Int} {a : List α} {hole : List Nat} {st : ST} {rs ws : List Nat} {k : List V × Nat → RM} {K : V → ST → List Nat → List Nat → Prop} (h : idx? ls j = some a) (hno : j.toNat * 1 ∉ hole) (hk : (k (recs enc a, a.length)).goT st rs ws K) :
    (RM.exi (List V × Nat) (fun y => (recs (eS enc) ls)[j.toNat * 1]? = some (.sl y.1 y.2) ∧ j.toNat * 1 ∉ hole) k).goT st rs ws K := ⟨_, ⟨nest_get h, hno⟩, hk⟩
theorem o_gv {α : Type} {enc : α → List V} {s2 : Nat} {ls r : List (List α)} {x : List α} {j : Int} {b b2 n : Nat} {e e2 : TypeId} {hole hole1 : List Nat} {st : ST} {d : Decidable (n = 1 ∧ x.length * s2 = (recs enc x).length ∧ 0 < s2 ∧ j.toNat * 1 < (recs (eS enc) ls).length ∧ b2 ≠ b)}
    {K : V → ST → Prop} (h : set? ls j x = some r) (he : ∀ a, (enc a).length = s2) (hs : 0 < s2) (hn : n = 1) (hh : ∀ i, i ∉ hole1 → i = j.toNat * 1 ∨ i ∉ hole) (hb : b2 ≠ b) (hk : (RM.ret .top).go ((b, .nest e e2 s2 (recs (eS enc) r) hole1) :: (b2, .dead) :: st) K) :
    (@RM.dec (n = 1 ∧ x.length * s2 = (recs enc x).length ∧ 0 < s2 ∧ j.toNat * 1 < (recs (eS enc) ls).length ∧ b2 ≠ b) (.exi (List Nat) (fun h => ∀ i, i ∉ h → i = j.toNat * 1 ∨ i ∉ hole) fun h => .put b2 .dead (.put b (.nest e e2 s2 ((recs (eS enc) ls).set (j.toNat * 1) (.sl (recs enc x) x.length)) h) (.ret .top))) d).go st K := by
  obtain ⟨h1, h2⟩ := nest_set (enc := enc) h
  rw [h1]
  exact ⟨⟨hn, (recs_length he x).symm, hs, h2, hb⟩, hole1, hh, hk⟩
theorem o_gvT {α : Type} {enc : α → List V} {s2 : Nat} {ls r : List (List α)} {x : List α} {j : Int} {b b2 n : Nat} {e e2 : TypeId} {hole hole1 : List Nat} {st : ST} {rs ws : List Nat} {d : Decidable (n = 1 ∧ x.length * s2 = (recs enc x).length ∧ 0 < s2 ∧ j.toNat * 1 < (recs (eS enc) ls).length ∧ b2 ≠ b)}
    {K : V → ST → List Nat → List Nat → Prop} (h : set? ls j x = some r) (he : ∀ a, (enc a).length = s2) (hs : 0 < s2) (hn : n = 1) (hh : ∀ i, i ∉ hole1 → i = j.toNat * 1 ∨ i ∉ hole) (hb : b2 ≠ b) (hk : (RM.ret .top).goT ((b, .nest e e2 s2 (recs (eS enc) r) hole1) :: (b2, .dead) :: st) rs (b :: b2 :: ws) K) :
    (@RM.dec (n = 1 ∧ x.length * s2 = (recs enc x).length ∧ 0 < s2 ∧ j.toNat * 1 < (recs (eS enc) ls).length ∧ b2 ≠ b) (.exi (List Nat) (fun h => ∀ i, i ∉ h → i = j.toNat * 1 ∨ i ∉ hole) fun h => .put b2 .dead (.put b (.nest e e2 s2 ((recs (eS enc) ls).set (j.toNat * 1) (.sl (recs enc x) x.length)) h) (.ret .top))) d).goT st rs ws K := by
  obtain ⟨h1, h2⟩ := nest_set (enc := enc) h
  rw [h1]
  exact ⟨⟨hn, (recs_length he x).symm, hs, h2, hb⟩, hole1, hh, hk⟩
end Go.Ev
/- The functions do what is said. -/
set_option linter.unusedVariables false
set_option linter.unusedSimpArgs false
namespace Go.Ev
open Go.Proofs
set_option maxHeartbeats 8000000
set_option maxRecDepth 100000
theorem mix : Try.prog.follows .mixedOrders = true := by kernel_rfl
end Go.Ev
