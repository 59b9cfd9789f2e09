/- A part of the proof of HullFloats. -/
import Derived.Test.YteajfcmpmcopoabGreatProg
import Derived.Test.YteajfcmpmcopoabGreatW2
/- What the functions do over typed data. -/
set_option linter.unusedVariables false
set_option linter.unusedSimpArgs false
namespace Go.Ev
open Go.Proofs
set_option maxHeartbeats 8000000
set_option maxRecDepth 100000
structure THullRow where
  Draft : Int
  Volume : Int
  deriving DecidableEq
def eTHullRow (x : THullRow) : List V := [(V.v (.int .i64 (x.Draft))), (V.v (.int .i64 (x.Volume)))]
structure THullHold where
  At : Int
  Lots : Int
  deriving DecidableEq
def eTHullHold (x : THullHold) : List V := [(V.v (.int .i64 (x.At))), (V.v (.int .i64 (x.Lots)))]
structure THullSection where
  Length : Int
  Light : Int
  Trim : Int
  Curve : List THullRow
  Holds : List THullHold
  deriving DecidableEq
def eTHullSection (x : THullSection) : List V := [(V.v (.int .i64 (x.Length))), (V.v (.int .i64 (x.Light))), (V.v (.int .i64 (x.Trim))), (V.sl (recs eTHullRow (x.Curve)) (x.Curve).length), (V.sl (recs eTHullHold (x.Holds)) (x.Holds).length)]
structure THull where
  Lot : Int
  Sections : List THullSection
  deriving DecidableEq
def eTHull (x : THull) : List V := [(V.v (.int .i64 (x.Lot))), (V.sl (recs eTHullSection (x.Sections)) (x.Sections).length)]
structure Thull_hold where
  HullHold : THullHold
  arm_ : Int
  deriving DecidableEq
def eThull_hold (x : Thull_hold) : List V := [(V.v (.int .i64 (x.HullHold.At))), (V.v (.int .i64 (x.HullHold.Lots))), (V.v (.int .i64 (x.arm_)))]
structure Thull_ship where
  Hull : THull
  limit_ : Int
  trim_ : Int
  mass_ : Int
  moment_ : Int
  storage_ : List Thull_hold
  deriving DecidableEq
def eThull_ship (x : Thull_ship) : List V := [(V.v (.int .i64 (x.Hull.Lot))), (V.sl (recs eTHullSection (x.Hull.Sections)) (x.Hull.Sections).length), (V.v (.int .i64 (x.limit_))), (V.v (.int .i64 (x.trim_))), (V.v (.int .i64 (x.mass_))), (V.v (.int .i64 (x.moment_))), (V.sl (recs eThull_hold (x.storage_)) (x.storage_).length)]
structure TBounds where
  Low : Int
  High : Int
  deriving DecidableEq
def eTBounds (x : TBounds) : List V := [(V.v (.int .i64 (x.Low))), (V.v (.int .i64 (x.High)))]
structure THullFloat where
  Mean : TBounds
  Deep : TBounds
  Head : Int
  deriving DecidableEq
def eTHullFloat (x : THullFloat) : List V := [(V.v (.int .i64 (x.Mean.Low))), (V.v (.int .i64 (x.Mean.High))), (V.v (.int .i64 (x.Deep.Low))), (V.v (.int .i64 (x.Deep.High))), (V.v (.int .i64 (x.Head)))]
structure Tthalweglaw02_Loaded where
  Hull : THull
  Load : List Int
  Density : TBounds
  deriving DecidableEq
def eTthalweglaw02_Loaded (x : Tthalweglaw02_Loaded) : List V := [(V.v (.int .i64 (x.Hull.Lot))), (V.sl (recs eTHullSection (x.Hull.Sections)) (x.Hull.Sections).length), (V.sl (recs (eI .i64) (x.Load)) (x.Load).length), (V.v (.int .i64 (x.Density.Low))), (V.v (.int .i64 (x.Density.High)))]

noncomputable def L_thalweglaw02_great_1 (a0 : THull) : LoopD (Int) (Unit ⊕ Bool) (Unit) where
  step := fun s => match s with
    | s1 =>
      bif (decide (s1 < ((a0.Sections).length : Int))) then
        bif (decide (s1 < 11)) then
          (idx? (a0.Sections) (s1)).bind fun x4 =>
          bif (decide (((x4.Curve).length : Int) > 25)) then
            some (.inr (.inr true))
          else
            (idx? (a0.Sections) (s1)).bind fun x5 =>
            bif (decide (((x5.Holds).length : Int) > 8)) then
              some (.inr (.inr true))
            else
              some (.inl (wr (s1 + 1)))
        else
          some (.inr (.inl ()))
      else
        some (.inr (.inl ()))
  at_ := fun s gh => match s, gh with
    | s1, () => ⟨[(1, (V.box 0 0)), (2, (V.v (.bool (false)))), (3, (V.v (.int .i64 (s1))))], [(0, Bx.var [(V.v (.int .i64 (a0.Lot))), (V.sl (recs eTHullSection (a0.Sections)) (a0.Sections).length)] false)], 1⟩
noncomputable def F_thalweglaw02_great : (THull) → Option (Bool) := fun x => match x with
  | (a0) =>
    (loopC (L_thalweglaw02_great_1 a0).step 0).bind fun e => match e with
    | (.inl ()) =>
      some (decide (((a0.Sections).length : Int) > 10))
    | (.inr r6) =>
      some r6

noncomputable def L_thalweglaw02_own_1 (a0 : THull) : LoopD (Int × (List THullSection)) (((List THullSection))) (Unit) where
  step := fun s => match s with
    | (s1, s2) =>
      bif (decide (s1 < ((a0.Sections).length : Int))) then
        (idx? (a0.Sections) (s1)).bind fun x7 =>
        (app? (([] : List THullRow)) (x7.Curve) 16).bind fun l8 =>
        (app? (([] : List THullHold)) (x7.Holds) 16).bind fun l9 =>
        (app? (s2) (([(⟨x7.Length, x7.Light, x7.Trim, l8, l9⟩ : THullSection)] : List THullSection)) 72).bind fun l10 =>
        some (.inl ((wr (s1 + 1)), l10))
      else
        some (.inr s2)
  at_ := fun s gh => match s, gh with
    | (s1, s2), () => ⟨[(1, (V.box 0 0)), (2, (V.box 1 0)), (3, (V.box 5 0)), (4, (V.v (.int .i64 (s1))))], [(0, Bx.var [(V.v (.int .i64 (a0.Lot))), (V.sl (recs eTHullSection (a0.Sections)) (a0.Sections).length)] false), (1, Bx.var [(V.v (.int .i64 (0))), (V.v (.slice none 0 0))] false), (5, Bx.var [(V.v (.int .i64 (a0.Lot))), (V.osl 6 (s2).length)] false), (6, Bx.row 112 5 (recs eTHullSection (s2)) 0)], 7⟩
noncomputable def F_thalweglaw02_own : (THull) → Option (THull) := fun x => match x with
  | (a0) =>
    (loopC (L_thalweglaw02_own_1 a0).step (0, ([] : List THullSection))).bind fun e => match e with
    | s11 =>
      some (⟨a0.Lot, s11⟩ : THull)

noncomputable def F_thalweglaw02_numbers : ((List Int)) → Option (List Int) := fun x => match x with
  | (a0) =>
    (app? (([] : List Int)) (a0) 8).bind fun l1 =>
    some l1

noncomputable def L_numbers_Every_int_1 (a1 : (Int → Option Bool)) (a0 : List Int) (g : FuncId) (caps : List V) : LoopD (Int) (Unit ⊕ Bool) (Unit) where
  step := fun s => match s with
    | s1 =>
      bif (decide (s1 < ((a0).length : Int))) then
        (idx? (a0) (s1)).bind fun x4 =>
        (a1 (x4)).bind fun y5 =>
        bif (!y5) then
          some (.inr (.inr false))
        else
          some (.inl (wr (s1 + 1)))
      else
        some (.inr (.inl ()))
  at_ := fun s gh => match s, gh with
    | s1, () => ⟨[(1, (V.fn g caps)), (4, (V.v (.bool (false)))), (7, (V.sl (recs (eI .i64) (a0)) (a0).length)), (8, (V.v (.int .i64 (((a0).length : Int))))), (9, (V.v (.int .i64 (s1))))], [], 0⟩
noncomputable def F_numbers_Every_int : ((List Int) × ((Int → Option Bool)) × FuncId × (List V)) → Option (Bool) := fun x => match x with
  | (a0, a1, g, caps) =>
    (loopC (L_numbers_Every_int_1 a1 a0 g caps).step 0).bind fun e => match e with
    | (.inl ()) =>
      some true
    | (.inr r6) =>
      some r6

noncomputable def F_numbers_Within_1 : (Int × Int × Int) → Option (Bool) := fun x => match x with
  | (a0, c0, c1) =>
    bif (decide (c0 ≤ a0)) then
      some (decide (a0 ≤ c1))
    else
      some false

noncomputable def F_numbers_Within : (Int × Int × (List Int)) → Option (Bool) := fun x => match x with
  | (a0, a1, a2) =>
    (F_numbers_Every_int (a2, (fun q => F_numbers_Within_1 (q, a0, a1)), 87, [(V.fptr [(V.v (.int .i64 (a0)))]), (V.fptr [(V.v (.int .i64 (a1)))])])).bind fun y1 =>
    some y1

noncomputable def L_numbers_Every_HullSection_1 (a1 : (THullSection → Option Bool)) (a0 : List THullSection) (g : FuncId) (caps : List V) : LoopD (Int) (Unit ⊕ Bool) (Unit) where
  step := fun s => match s with
    | s1 =>
      bif (decide (s1 < ((a0).length : Int))) then
        (idx? (a0) (s1)).bind fun x4 =>
        (a1 (x4)).bind fun y5 =>
        bif (!y5) then
          some (.inr (.inr false))
        else
          some (.inl (wr (s1 + 1)))
      else
        some (.inr (.inl ()))
  at_ := fun s gh => match s, gh with
    | s1, () => ⟨[(1, (V.fn g caps)), (4, (V.v (.bool (false)))), (7, (V.sl (recs eTHullSection (a0)) (a0).length)), (8, (V.v (.int .i64 (((a0).length : Int))))), (9, (V.v (.int .i64 (s1))))], [], 0⟩
noncomputable def F_numbers_Every_HullSection : ((List THullSection) × ((THullSection → Option Bool)) × FuncId × (List V)) → Option (Bool) := fun x => match x with
  | (a0, a1, g, caps) =>
    (loopC (L_numbers_Every_HullSection_1 a1 a0 g caps).step 0).bind fun e => match e with
    | (.inl ()) =>
      some true
    | (.inr r6) =>
      some r6

noncomputable def L_hull_validCurve_1 (a0 : List THullRow) : LoopD (Int) (Unit ⊕ Bool) (Unit) where
  step := fun s => match s with
    | s3 =>
      bif (decide (s3 < ((a0).length : Int))) then
        (idx? (a0) ((wr (s3 - 1)))).bind fun x8 =>
        (idx? (a0) (s3)).bind fun x9 =>
        bif (decide (x8.Draft ≥ x9.Draft)) then
          some (.inr (.inr false))
        else
          (idx? (a0) ((wr (s3 - 1)))).bind fun x10 =>
          (idx? (a0) (s3)).bind fun x11 =>
          bif (decide (x10.Volume ≥ x11.Volume)) then
            some (.inr (.inr false))
          else
            some (.inl (wr (s3 + 1)))
      else
        some (.inr (.inl ()))
  at_ := fun s gh => match s, gh with
    | s3, () => ⟨[(0, (V.sl (recs eTHullRow (a0)) (a0).length)), (2, (V.v (.bool (false)))), (3, (V.v (.int .i64 (s3))))], [], 0⟩
noncomputable def F_hull_validCurve : ((List THullRow)) → Option (Bool) := fun x => match x with
  | (a0) =>
    (F_numbers_Within (2, 20, ([((a0).length : Int)] : List Int))).bind fun y1 =>
    bif (!y1) then
      some false
    else
      (idx? (a0) (0)).bind fun x2 =>
      bif (!(x2.Draft == 0 && (x2.Volume == 0 && true))) then
        some false
      else
        (loopC (L_hull_validCurve_1 a0).step 1).bind fun e => match e with
        | (.inl ()) =>
          (idx? (a0) ((wr (((a0).length : Int) - 1)))).bind fun x12 =>
          bif (decide (x12.Draft ≤ 1000)) then
            some (decide (x12.Volume ≤ 100000))
          else
            some false
        | (.inr r13) =>
          some r13

noncomputable def L_numbers_Every_HullHold_1 (a1 : (THullHold → Option Bool)) (a0 : List THullHold) (g : FuncId) (caps : List V) : LoopD (Int) (Unit ⊕ Bool) (Unit) where
  step := fun s => match s with
    | s1 =>
      bif (decide (s1 < ((a0).length : Int))) then
        (idx? (a0) (s1)).bind fun x4 =>
        (a1 (x4)).bind fun y5 =>
        bif (!y5) then
          some (.inr (.inr false))
        else
          some (.inl (wr (s1 + 1)))
      else
        some (.inr (.inl ()))
  at_ := fun s gh => match s, gh with
    | s1, () => ⟨[(1, (V.fn g caps)), (4, (V.v (.bool (false)))), (7, (V.sl (recs eTHullHold (a0)) (a0).length)), (8, (V.v (.int .i64 (((a0).length : Int))))), (9, (V.v (.int .i64 (s1))))], [], 0⟩
noncomputable def F_numbers_Every_HullHold : ((List THullHold) × ((THullHold → Option Bool)) × FuncId × (List V)) → Option (Bool) := fun x => match x with
  | (a0, a1, g, caps) =>
    (loopC (L_numbers_Every_HullHold_1 a1 a0 g caps).step 0).bind fun e => match e with
    | (.inl ()) =>
      some true
    | (.inr r6) =>
      some r6

noncomputable def F_hull_validSection_1 : (THullHold × THullSection) → Option (Bool) := fun x => match x with
  | (a0, c0) =>
    (F_numbers_Within (0, c0.Length, ([a0.At] : List Int))).bind fun y1 =>
    bif y1 then
      (F_numbers_Within (0, 20, ([a0.Lots] : List Int))).bind fun y2 =>
      some y2
    else
      some false

noncomputable def F_hull_validSection : (THullSection) → Option (Bool) := fun x => match x with
  | (a0) =>
    (F_numbers_Within (1, 100, ([a0.Length] : List Int))).bind fun y1 =>
    bif y1 then
      (F_numbers_Within (0, 10000, ([a0.Light] : List Int))).bind fun y2 =>
      bif y2 then
        (F_numbers_Within (1, 100000, ([a0.Trim] : List Int))).bind fun y3 =>
        bif y3 then
          (F_hull_validCurve (a0.Curve)).bind fun y4 =>
          bif y4 then
            (F_numbers_Every_HullHold (a0.Holds, (fun q => F_hull_validSection_1 (q, a0)), 90, [(V.fptr [(V.v (.int .i64 (a0.Length))), (V.v (.int .i64 (a0.Light))), (V.v (.int .i64 (a0.Trim))), (V.sl (recs eTHullRow (a0.Curve)) (a0.Curve).length), (V.sl (recs eTHullHold (a0.Holds)) (a0.Holds).length)])])).bind fun y5 =>
            some y5
          else
            some false
        else
          some false
      else
        some false
    else
      some false

noncomputable def L_hull_length_1 (a0 : List THullSection) : LoopD (Int × Int) (Int) (Unit) where
  step := fun s => match s with
    | (s1, s2) =>
      bif (decide (s2 < ((a0).length : Int))) then
        (idx? (a0) (s2)).bind fun x4 =>
        some (.inl ((wr (s1 + x4.Length)), (wr (s2 + 1))))
      else
        some (.inr s1)
  at_ := fun s gh => match s, gh with
    | (s1, s2), () => ⟨[(2, (V.v (.int .i64 (0)))), (3, (V.v (.int .i64 (s1)))), (6, (V.sl (recs eTHullSection (a0)) (a0).length)), (7, (V.v (.int .i64 (((a0).length : Int))))), (8, (V.v (.int .i64 (s2))))], [], 0⟩
noncomputable def F_hull_length : ((List THullSection)) → Option (Int) := fun x => match x with
  | (a0) =>
    (loopC (L_hull_length_1 a0).step (0, 0)).bind fun e => match e with
    | s5 =>
      some s5

noncomputable def L_hull_holds_1 (a0 : List THullSection) : LoopD (Int × Int) (Int) (Unit) where
  step := fun s => match s with
    | (s1, s2) =>
      bif (decide (s2 < ((a0).length : Int))) then
        (idx? (a0) (s2)).bind fun x4 =>
        some (.inl ((wr (s1 + ((x4.Holds).length : Int))), (wr (s2 + 1))))
      else
        some (.inr s1)
  at_ := fun s gh => match s, gh with
    | (s1, s2), () => ⟨[(2, (V.v (.int .i64 (0)))), (3, (V.v (.int .i64 (s1)))), (6, (V.sl (recs eTHullSection (a0)) (a0).length)), (7, (V.v (.int .i64 (((a0).length : Int))))), (8, (V.v (.int .i64 (s2))))], [], 0⟩
noncomputable def F_hull_holds : ((List THullSection)) → Option (Int) := fun x => match x with
  | (a0) =>
    (loopC (L_hull_holds_1 a0).step (0, 0)).bind fun e => match e with
    | s5 =>
      some s5

noncomputable def F_hull_Check : (THull) → Option (Int) := fun x => match x with
  | (a0) =>
    (F_numbers_Within (1, 1000, ([a0.Lot] : List Int))).bind fun y1 =>
    bif (!y1) then
      some 2
    else
      (F_numbers_Within (1, 6, ([((a0.Sections).length : Int)] : List Int))).bind fun y2 =>
      bif (!y2) then
        some 2
      else
        (F_numbers_Every_HullSection (a0.Sections, (fun q => F_hull_validSection (q)), 48, [])).bind fun y3 =>
        bif (!y3) then
          some 2
        else
          (F_hull_length (a0.Sections)).bind fun y4 =>
          bif (decide (y4 > 200)) then
            some 2
          else
            (F_hull_holds (a0.Sections)).bind fun y5 =>
            bif (decide (y5 > 4)) then
              some 2
            else
              some 0

noncomputable def L_hull_launch_1 (s3 : Int) (a0 : THull) (s4 : Int) (x19 : THullSection) (s5 : Int) (x20 : THullRow) (s6 : Int) (s7 : Int) (s8 : Int) : LoopD (Int × (List Thull_hold)) (((List Thull_hold))) (Unit) where
  step := fun s => match s with
    | (s21, s22) =>
      bif (decide (s21 < ((x19.Holds).length : Int))) then
        (idx? (x19.Holds) (s21)).bind fun x25 =>
        (app? (s22) (([(⟨x25, (wr (s3 + (wr (2 * x25.At))))⟩ : Thull_hold)] : List Thull_hold)) 24).bind fun l26 =>
        some (.inl ((wr (s21 + 1)), l26))
      else
        some (.inr s22)
  at_ := fun s gh => match s, gh with
    | (s21, s22), () => ⟨[(2, (V.box 1 0)), (3, (V.v (.int .i64 (0)))), (5, (V.box 10 0)), (6, (V.v (.int .i64 (s3)))), (8, (V.box 15 0)), (24, (V.sl (recs eTHullSection (a0.Sections)) (a0.Sections).length)), (25, (V.v (.int .i64 (((a0.Sections).length : Int))))), (26, (V.v (.int .i64 (s4)))), (67, (V.sl (recs eTHullHold (x19.Holds)) (x19.Holds).length)), (68, (V.v (.int .i64 (((x19.Holds).length : Int))))), (69, (V.v (.int .i64 (s21))))], [(1, Bx.var [(V.v (.int .i64 (0))), (V.v (.slice none 0 0)), (V.v (.int .i64 (0))), (V.v (.int .i64 (0))), (V.v (.int .i64 (0))), (V.v (.int .i64 (0))), (V.v (.slice none 0 0))] false), (10, Bx.var [(V.v (.int .i64 (a0.Lot))), (V.sl (recs eTHullSection (a0.Sections)) (a0.Sections).length), (V.v (.int .i64 ((minmax false s5 x20.Draft)))), (V.v (.int .i64 ((wr (s6 + x19.Trim))))), (V.v (.int .i64 ((wr (s7 + x19.Light))))), (V.v (.int .i64 ((wr (s8 + (wr (x19.Light * (wr (s3 + x19.Length))))))))), (V.osl 11 (s22).length)] false), (11, Bx.row 180 3 (recs eThull_hold (s22)) 0), (15, Bx.var [(V.v (.int .i64 (x19.Length))), (V.v (.int .i64 (x19.Light))), (V.v (.int .i64 (x19.Trim))), (V.sl (recs eTHullRow (x19.Curve)) (x19.Curve).length), (V.sl (recs eTHullHold (x19.Holds)) (x19.Holds).length)] false)], 16⟩
noncomputable def L_hull_launch_2 (a0 : THull) : LoopD (Int × Int × Int × Int × Int × Int × (List Thull_hold)) ((Int × Int × Int × Int × (List Thull_hold))) (Unit) where
  step := fun s => match s with
    | (s3, s4, s5, s6, s7, s8, s9) =>
      bif (decide (s4 < ((a0.Sections).length : Int))) then
        (idx? (a0.Sections) (s4)).bind fun x19 =>
        (idx? (x19.Curve) ((wr (((x19.Curve).length : Int) - 1)))).bind fun x20 =>
        (loopC (L_hull_launch_1 s3 a0 s4 x19 s5 x20 s6 s7 s8).step (0, s9)).bind fun e => match e with
        | s27 =>
          some (.inl ((wr (s3 + (wr (2 * x19.Length)))), (wr (s4 + 1)), (minmax false s5 x20.Draft), (wr (s6 + x19.Trim)), (wr (s7 + x19.Light)), (wr (s8 + (wr (x19.Light * (wr (s3 + x19.Length)))))), s27))
      else
        some (.inr (s5, s6, s7, s8, s9))
  at_ := fun s gh => match s, gh with
    | (s3, s4, s5, s6, s7, s8, s9), () => ⟨[(2, (V.box 1 0)), (3, (V.v (.int .i64 (0)))), (5, (V.box 10 0)), (6, (V.v (.int .i64 (s3)))), (24, (V.sl (recs eTHullSection (a0.Sections)) (a0.Sections).length)), (25, (V.v (.int .i64 (((a0.Sections).length : Int))))), (26, (V.v (.int .i64 (s4))))], [(1, Bx.var [(V.v (.int .i64 (0))), (V.v (.slice none 0 0)), (V.v (.int .i64 (0))), (V.v (.int .i64 (0))), (V.v (.int .i64 (0))), (V.v (.int .i64 (0))), (V.v (.slice none 0 0))] false), (10, Bx.var [(V.v (.int .i64 (a0.Lot))), (V.sl (recs eTHullSection (a0.Sections)) (a0.Sections).length), (V.v (.int .i64 (s5))), (V.v (.int .i64 (s6))), (V.v (.int .i64 (s7))), (V.v (.int .i64 (s8))), (V.osl 11 (s9).length)] false), (11, Bx.row 180 3 (recs eThull_hold (s9)) 0)], 12⟩
noncomputable def F_hull_launch : (THull) → Option (Thull_ship × Int) := fun x => match x with
  | (a0) =>
    (F_hull_Check (a0)).bind fun y1 =>
    bif (y1 != 0) then
      some ((⟨(⟨0, ([] : List THullSection)⟩ : THull), 0, 0, 0, 0, ([] : List Thull_hold)⟩ : Thull_ship), y1)
    else
      (F_hull_length (a0.Sections)).bind fun y2 =>
      (loopC (L_hull_launch_2 a0).step ((wr (0 - y2)), 0, 1000, 0, 0, 0, ([] : List Thull_hold))).bind fun e => match e with
      | (s28, s29, s30, s31, s32) =>
        some ((⟨a0, s28, s29, s30, s31, s32⟩ : Thull_ship), 0)

noncomputable def L_slices_IndexFunc_L_HullRow_HullRow_1 (a0 : List THullRow) (a1 : (THullRow → Option Bool)) (g : FuncId) (caps : List V) : LoopD (Int) (Unit ⊕ Int) (Unit) where
  step := fun s => match s with
    | s1 =>
      bif (decide (s1 < ((a0).length : Int))) then
        (idx? (a0) (s1)).bind fun x4 =>
        (a1 (x4)).bind fun y5 =>
        bif y5 then
          some (.inr (.inr s1))
        else
          some (.inl (wr (s1 + 1)))
      else
        some (.inr (.inl ()))
  at_ := fun s gh => match s, gh with
    | s1, () => ⟨[(0, (V.sl (recs eTHullRow (a0)) (a0).length)), (1, (V.fn g caps)), (4, (V.v (.int .i64 (0)))), (7, (V.v (.int .i64 (((a0).length : Int))))), (8, (V.v (.int .i64 (s1))))], [], 0⟩
noncomputable def F_slices_IndexFunc_L_HullRow_HullRow : ((List THullRow) × ((THullRow → Option Bool)) × FuncId × (List V)) → Option (Int) := fun x => match x with
  | (a0, a1, g, caps) =>
    (loopC (L_slices_IndexFunc_L_HullRow_HullRow_1 a0 a1 g caps).step 0).bind fun e => match e with
    | (.inl ()) =>
      some (-1)
    | (.inr r6) =>
      some r6

noncomputable def F_hull_curveAt_1 : (THullRow × Int) → Option (Bool) := fun x => match x with
  | (a0, c0) =>
    some (decide (c0 ≤ a0.Draft))

noncomputable def F_hull_curveAt : ((List THullRow) × Int) → Option (Int) := fun x => match x with
  | (a0, a1) =>
    (slc? (a0) (1) (((a0).length : Int))).bind fun l1 =>
    (F_slices_IndexFunc_L_HullRow_HullRow (l1, (fun q => F_hull_curveAt_1 (q, a1)), 117, [(V.fptr [(V.v (.int .i64 (a1)))])])).bind fun y2 =>
    (idx? (a0) (y2)).bind fun x3 =>
    (idx? (a0) ((wr (y2 + 1)))).bind fun x4 =>
    (nz? ((wr (x4.Draft - x3.Draft)))).bind fun _ =>
    some (wr (x3.Volume + (wr (Int.tdiv (wr ((wr (x4.Volume - x3.Volume)) * (wr (a1 - x3.Draft)))) (wr (x4.Draft - x3.Draft))))))

noncomputable def L_hull_ship_volume_1 (a1 : Int) (a0 : Thull_ship) : LoopD (Int × Int) (Int) (Unit) where
  step := fun s => match s with
    | (s1, s2) =>
      bif (decide (s2 < ((a0.Hull.Sections).length : Int))) then
        (idx? (a0.Hull.Sections) (s2)).bind fun x5 =>
        (F_hull_curveAt (x5.Curve, a1)).bind fun y6 =>
        some (.inl ((wr (s1 + y6)), (wr (s2 + 1))))
      else
        some (.inr s1)
  at_ := fun s gh => match s, gh with
    | (s1, s2), () => ⟨[(1, (V.v (.int .i64 (a1)))), (4, (V.v (.int .i64 (0)))), (5, (V.v (.int .i64 (s1)))), (10, (V.sl (recs eTHullSection (a0.Hull.Sections)) (a0.Hull.Sections).length)), (11, (V.v (.int .i64 (((a0.Hull.Sections).length : Int))))), (12, (V.v (.int .i64 (s2))))], [], 0⟩
noncomputable def F_hull_ship_volume : (Thull_ship × Int) → Option (Int) := fun x => match x with
  | (a0, a1) =>
    (loopC (L_hull_ship_volume_1 a1 a0).step (0, 0)).bind fun e => match e with
    | s7 =>
      some s7

noncomputable def F_hull_Volume : (THull × Int) → Option (Int × Int) := fun x => match x with
  | (a0, a1) =>
    (F_hull_launch (a0)).bind fun y1 =>
    bif (y1.2 != 0) then
      some (0, y1.2)
    else
      (F_numbers_Within (0, y1.1.limit_, ([a1] : List Int))).bind fun y2 =>
      bif (!y2) then
        some (0, 3)
      else
        (F_hull_ship_volume (y1.1, a1)).bind fun y3 =>
        some (y3, 0)

noncomputable def L_hull_ship_checkLoad_1 (a1 : List Int) (a0 : Thull_ship) : LoopD (Int) (Unit ⊕ Int) (Unit) where
  step := fun s => match s with
    | s1 =>
      bif (decide (s1 < ((a1).length : Int))) then
        (idx? (a1) (s1)).bind fun x5 =>
        (idx? (a0.storage_) (s1)).bind fun x6 =>
        (F_numbers_Within (0, x6.HullHold.Lots, ([x5] : List Int))).bind fun y7 =>
        bif (!y7) then
          some (.inr (.inr 3))
        else
          some (.inl (wr (s1 + 1)))
      else
        some (.inr (.inl ()))
  at_ := fun s gh => match s, gh with
    | s1, () => ⟨[(2, (V.box 0 0)), (4, (V.v (.int .i64 (0)))), (13, (V.sl (recs (eI .i64) (a1)) (a1).length)), (14, (V.v (.int .i64 (((a1).length : Int))))), (15, (V.v (.int .i64 (s1))))], [(0, Bx.var [(V.v (.int .i64 (a0.Hull.Lot))), (V.sl (recs eTHullSection (a0.Hull.Sections)) (a0.Hull.Sections).length), (V.v (.int .i64 (a0.limit_))), (V.v (.int .i64 (a0.trim_))), (V.v (.int .i64 (a0.mass_))), (V.v (.int .i64 (a0.moment_))), (V.sl (recs eThull_hold (a0.storage_)) (a0.storage_).length)] false)], 1⟩
noncomputable def F_hull_ship_checkLoad : (Thull_ship × (List Int)) → Option (Int) := fun x => match x with
  | (a0, a1) =>
    bif (((a1).length : Int) != ((a0.storage_).length : Int)) then
      some 4
    else
      (loopC (L_hull_ship_checkLoad_1 a1 a0).step 0).bind fun e => match e with
      | (.inl ()) =>
        some 0
      | (.inr r8) =>
        some r8

noncomputable def F_numbers_Valid : (TBounds × Int × Int) → Option (Bool) := fun x => match x with
  | (a0, a1, a2) =>
    bif (decide (a0.Low ≤ a0.High)) then
      (F_numbers_Within (a1, a2, ([a0.Low, a0.High] : List Int))).bind fun y1 =>
      some y1
    else
      some false

noncomputable def F_hull_validDensity : (TBounds) → Option (Bool) := fun x => match x with
  | (a0) =>
    (F_numbers_Valid (a0, 900, 1100)).bind fun y1 =>
    some y1

noncomputable def L_hull_ship_loaded_1 (a1 : List Int) (a0 : Thull_ship) : LoopD (Int × Int × Int) ((Int × Int)) (Unit) where
  step := fun s => match s with
    | (s1, s2, s3) =>
      bif (decide (s3 < ((a1).length : Int))) then
        (idx? (a1) (s3)).bind fun x6 =>
        (idx? (a0.storage_) (s3)).bind fun x7 =>
        some (.inl ((wr (s1 + x6)), (wr (s2 + (wr ((wr (x6 * a0.Hull.Lot)) * x7.arm_)))), (wr (s3 + 1))))
      else
        some (.inr (s1, s2))
  at_ := fun s gh => match s, gh with
    | (s1, s2, s3), () => ⟨[(2, (V.box 0 0)), (4, (V.v (.int .i64 (s1)))), (5, (V.v (.int .i64 (s2)))), (10, (V.sl (recs (eI .i64) (a1)) (a1).length)), (11, (V.v (.int .i64 (((a1).length : Int))))), (12, (V.v (.int .i64 (s3))))], [(0, Bx.var [(V.v (.int .i64 (a0.Hull.Lot))), (V.sl (recs eTHullSection (a0.Hull.Sections)) (a0.Hull.Sections).length), (V.v (.int .i64 (a0.limit_))), (V.v (.int .i64 (a0.trim_))), (V.v (.int .i64 (a0.mass_))), (V.v (.int .i64 (a0.moment_))), (V.sl (recs eThull_hold (a0.storage_)) (a0.storage_).length)] false)], 1⟩
noncomputable def F_hull_ship_loaded : (Thull_ship × (List Int)) → Option (Int × Int) := fun x => match x with
  | (a0, a1) =>
    (loopC (L_hull_ship_loaded_1 a1 a0).step (0, a0.moment_, 0)).bind fun e => match e with
    | (s8, s9) =>
      some (s8, s9)

noncomputable def F_numbers_Down : (Int × Int) → Option (Int) := fun x => match x with
  | (a0, a1) =>
    (nz? (a1)).bind fun _ =>
    bif (decide ((Int.tmod a0 a1) < 0)) then
      (nz? (a1)).bind fun _ =>
      some (wr ((wr (Int.tdiv a0 a1)) - 1))
    else
      (nz? (a1)).bind fun _ =>
      some (wr (Int.tdiv a0 a1))

noncomputable def F_numbers_Up : (Int × Int) → Option (Int) := fun x => match x with
  | (a0, a1) =>
    (F_numbers_Down ((wr (0 - a0)), a1)).bind fun y1 =>
    some (wr (0 - y1))

noncomputable def L_sort_Search_1 (a1 : (Int → Option Bool)) (g : FuncId) (caps : List V) : LoopD (Int × Int) (Int) (Unit) where
  step := fun s => match s with
    | (s1, s2) =>
      bif (decide (s1 < s2)) then
        (a1 ((wr ((Int.fdiv ((IntKind.wrap .u64 ((wr (s1 + s2))))) 2))))).bind fun y4 =>
        bif (!y4) then
          some (.inl ((wr ((wr ((Int.fdiv ((IntKind.wrap .u64 ((wr (s1 + s2))))) 2))) + 1)), s2))
        else
          some (.inl (s1, (wr ((Int.fdiv ((IntKind.wrap .u64 ((wr (s1 + s2))))) 2)))))
      else
        some (.inr s1)
  at_ := fun s gh => match s, gh with
    | (s1, s2), () => ⟨[(1, (V.fn g caps)), (4, (V.v (.int .i64 (0)))), (5, (V.v (.int .i64 (s1)))), (6, (V.v (.int .i64 (s2))))], [], 0⟩
noncomputable def F_sort_Search : (Int × ((Int → Option Bool)) × FuncId × (List V)) → Option (Int) := fun x => match x with
  | (a0, a1, g, caps) =>
    (loopC (L_sort_Search_1 a1 g caps).step (0, a0)).bind fun e => match e with
    | s5 =>
      some s5

noncomputable def F_hull_ship_mean_1 : (Int × Thull_ship × Int) → Option (Bool) := fun x => match x with
  | (a0, c0, c1) =>
    (F_hull_ship_volume (c0, a0)).bind fun y1 =>
    some (decide (y1 ≥ c1))

noncomputable def F_hull_ship_mean : (Thull_ship × Int × Int) → Option (Int) := fun x => match x with
  | (a0, a1, a2) =>
    (F_numbers_Up ((wr ((wr (a0.mass_ + (wr (a1 * a0.Hull.Lot)))) * 1000)), a2)).bind fun y1 =>
    (F_sort_Search ((wr (a0.limit_ + 1)), (fun q => F_hull_ship_mean_1 (q, a0, y1)), 119, [(V.fptr [(V.v (.int .i64 (a0.Hull.Lot))), (V.sl (recs eTHullSection (a0.Hull.Sections)) (a0.Hull.Sections).length), (V.v (.int .i64 (a0.limit_))), (V.v (.int .i64 (a0.trim_))), (V.v (.int .i64 (a0.mass_))), (V.v (.int .i64 (a0.moment_))), (V.sl (recs eThull_hold (a0.storage_)) (a0.storage_).length)]), (V.fptr [(V.v (.int .i64 (y1)))])])).bind fun y2 =>
    some y2

noncomputable def F_hull_withoutSign : (Int) → Option (Int) := fun x => match x with
  | (a0) =>
    some (minmax true a0 (wr (0 - a0)))

noncomputable def F_cmp_isNaN_int : (Int) → Option (Bool) := fun x => match x with
  | (a0) =>
    some (a0 != a0)

noncomputable def F_cmp_Compare_int : (Int × Int) → Option (Int) := fun x => match x with
  | (a0, a1) =>
    (F_cmp_isNaN_int (a0)).bind fun y1 =>
    (F_cmp_isNaN_int (a1)).bind fun y2 =>
    bif y1 then
      bif y2 then
        some 0
      else
        some (-1)
    else
      bif y2 then
        some 1
      else
        bif (decide (a0 < a1)) then
          some (-1)
        else
          bif (decide (a0 > a1)) then
            some 1
          else
            some 0

noncomputable def F_hull_ship_float : (Thull_ship × (List Int) × TBounds) → Option (THullFloat × Int) := fun x => match x with
  | (a0, a1, a2) =>
    (F_hull_ship_loaded (a0, a1)).bind fun y1 =>
    (F_hull_ship_mean (a0, y1.1, a2.High)).bind fun y2 =>
    (F_hull_ship_mean (a0, y1.1, a2.Low)).bind fun y3 =>
    (F_hull_withoutSign (y1.2)).bind fun y4 =>
    (F_numbers_Up (y4, (wr (4 * a0.trim_)))).bind fun y5 =>
    bif (decide ((wr (y3 + y5)) > a0.limit_)) then
      some ((⟨(⟨0, 0⟩ : TBounds), (⟨0, 0⟩ : TBounds), 0⟩ : THullFloat), 8)
    else
      (F_cmp_Compare_int (y1.2, 0)).bind fun y6 =>
      some ((⟨(⟨y2, y3⟩ : TBounds), (⟨(wr (y2 + y5)), (wr (y3 + y5))⟩ : TBounds), y6⟩ : THullFloat), 0)

noncomputable def F_hull_Float : (THull × (List Int) × TBounds) → Option (THullFloat × Int) := fun x => match x with
  | (a0, a1, a2) =>
    (F_hull_launch (a0)).bind fun y1 =>
    bif (y1.2 != 0) then
      some ((⟨(⟨0, 0⟩ : TBounds), (⟨0, 0⟩ : TBounds), 0⟩ : THullFloat), y1.2)
    else
      (F_hull_ship_checkLoad (y1.1, a1)).bind fun y2 =>
      bif (y2 != 0) then
        some ((⟨(⟨0, 0⟩ : TBounds), (⟨0, 0⟩ : TBounds), 0⟩ : THullFloat), y2)
      else
        (F_hull_validDensity (a2)).bind fun y3 =>
        bif (!y3) then
          some ((⟨(⟨0, 0⟩ : TBounds), (⟨0, 0⟩ : TBounds), 0⟩ : THullFloat), 2)
        else
          (F_hull_ship_float (y1.1, a1, a2)).bind fun y4 =>
          some (y4.1, y4.2)

noncomputable def L_thalweglaw02_same_1 (s1 : Int) (a0 : THull) (a1 : THull) (x17 : THullSection) (x16 : THullSection) : LoopD (Int) (Unit ⊕ Bool) (Unit) where
  step := fun s => match s with
    | s18 =>
      bif (decide (s18 < ((x16.Curve).length : Int))) then
        (idx? (x16.Curve) (s18)).bind fun x21 =>
        (idx? (x17.Curve) (s18)).bind fun x22 =>
        bif (!(x21.Draft == x22.Draft && (x21.Volume == x22.Volume && true))) then
          some (.inr (.inr false))
        else
          some (.inl (wr (s18 + 1)))
      else
        some (.inr (.inl ()))
  at_ := fun s gh => match s, gh with
    | s18, () => ⟨[(2, (V.box 0 0)), (3, (V.box 1 0)), (4, (V.v (.bool (false)))), (5, (V.v (.int .i64 (s1)))), (6, (V.box 17 0)), (7, (V.box 18 0)), (8, (V.v (.int .i64 (s18))))], [(0, Bx.var [(V.v (.int .i64 (a0.Lot))), (V.sl (recs eTHullSection (a0.Sections)) (a0.Sections).length)] false), (1, Bx.var [(V.v (.int .i64 (a1.Lot))), (V.sl (recs eTHullSection (a1.Sections)) (a1.Sections).length)] false), (17, Bx.var [(V.v (.int .i64 (x16.Length))), (V.v (.int .i64 (x16.Light))), (V.v (.int .i64 (x16.Trim))), (V.sl (recs eTHullRow (x16.Curve)) (x16.Curve).length), (V.sl (recs eTHullHold (x16.Holds)) (x16.Holds).length)] false), (18, Bx.var [(V.v (.int .i64 (x17.Length))), (V.v (.int .i64 (x17.Light))), (V.v (.int .i64 (x17.Trim))), (V.sl (recs eTHullRow (x17.Curve)) (x17.Curve).length), (V.sl (recs eTHullHold (x17.Holds)) (x17.Holds).length)] false)], 19⟩
noncomputable def L_thalweglaw02_same_2 (s1 : Int) (a0 : THull) (a1 : THull) (x17 : THullSection) (x16 : THullSection) : LoopD (Int) (Unit ⊕ Bool) (Unit) where
  step := fun s => match s with
    | s23 =>
      bif (decide (s23 < ((x16.Holds).length : Int))) then
        (idx? (x16.Holds) (s23)).bind fun x26 =>
        (idx? (x17.Holds) (s23)).bind fun x27 =>
        bif (!(x26.At == x27.At && (x26.Lots == x27.Lots && true))) then
          some (.inr (.inr false))
        else
          some (.inl (wr (s23 + 1)))
      else
        some (.inr (.inl ()))
  at_ := fun s gh => match s, gh with
    | s23, () => ⟨[(2, (V.box 0 0)), (3, (V.box 1 0)), (4, (V.v (.bool (false)))), (5, (V.v (.int .i64 (s1)))), (6, (V.box 17 0)), (7, (V.box 18 0)), (9, (V.v (.int .i64 (s23))))], [(0, Bx.var [(V.v (.int .i64 (a0.Lot))), (V.sl (recs eTHullSection (a0.Sections)) (a0.Sections).length)] false), (1, Bx.var [(V.v (.int .i64 (a1.Lot))), (V.sl (recs eTHullSection (a1.Sections)) (a1.Sections).length)] false), (17, Bx.var [(V.v (.int .i64 (x16.Length))), (V.v (.int .i64 (x16.Light))), (V.v (.int .i64 (x16.Trim))), (V.sl (recs eTHullRow (x16.Curve)) (x16.Curve).length), (V.sl (recs eTHullHold (x16.Holds)) (x16.Holds).length)] false), (18, Bx.var [(V.v (.int .i64 (x17.Length))), (V.v (.int .i64 (x17.Light))), (V.v (.int .i64 (x17.Trim))), (V.sl (recs eTHullRow (x17.Curve)) (x17.Curve).length), (V.sl (recs eTHullHold (x17.Holds)) (x17.Holds).length)] false)], 19⟩
noncomputable def L_thalweglaw02_same_3 (a0 : THull) (a1 : THull) : LoopD (Int) (Unit ⊕ Bool) (Unit) where
  step := fun s => match s with
    | s1 =>
      bif (decide (s1 < ((a0.Sections).length : Int))) then
        (idx? (a0.Sections) (s1)).bind fun x16 =>
        (idx? (a1.Sections) (s1)).bind fun x17 =>
        bif (x16.Length != x17.Length) then
          some (.inr (.inr false))
        else
          bif (x16.Light != x17.Light) then
            some (.inr (.inr false))
          else
            bif (x16.Trim != x17.Trim) then
              some (.inr (.inr false))
            else
              bif (((x16.Curve).length : Int) != ((x17.Curve).length : Int)) then
                some (.inr (.inr false))
              else
                bif (((x16.Holds).length : Int) != ((x17.Holds).length : Int)) then
                  some (.inr (.inr false))
                else
                  (loopC (L_thalweglaw02_same_1 s1 a0 a1 x17 x16).step 0).bind fun e => match e with
                  | (.inl ()) =>
                    (loopC (L_thalweglaw02_same_2 s1 a0 a1 x17 x16).step 0).bind fun e => match e with
                    | (.inl ()) =>
                      some (.inl (wr (s1 + 1)))
                    | (.inr r28) =>
                      some (.inr (.inr r28))
                  | (.inr r29) =>
                    some (.inr (.inr r29))
      else
        some (.inr (.inl ()))
  at_ := fun s gh => match s, gh with
    | s1, () => ⟨[(2, (V.box 0 0)), (3, (V.box 1 0)), (4, (V.v (.bool (false)))), (5, (V.v (.int .i64 (s1))))], [(0, Bx.var [(V.v (.int .i64 (a0.Lot))), (V.sl (recs eTHullSection (a0.Sections)) (a0.Sections).length)] false), (1, Bx.var [(V.v (.int .i64 (a1.Lot))), (V.sl (recs eTHullSection (a1.Sections)) (a1.Sections).length)] false)], 2⟩
noncomputable def F_thalweglaw02_same : (THull × THull) → Option (Bool) := fun x => match x with
  | (a0, a1) =>
    bif (a0.Lot != a1.Lot) then
      some false
    else
      bif (((a0.Sections).length : Int) != ((a1.Sections).length : Int)) then
        some false
      else
        (loopC (L_thalweglaw02_same_3 a0 a1).step 0).bind fun e => match e with
        | (.inl ()) =>
          some true
        | (.inr r30) =>
          some r30

noncomputable def L_thalweglaw02_equal_1 (a0 : List Int) (a1 : List Int) : LoopD (Int) (Unit ⊕ Bool) (Unit) where
  step := fun s => match s with
    | s1 =>
      bif (decide (s1 < ((a0).length : Int))) then
        (idx? (a0) (s1)).bind fun x4 =>
        (idx? (a1) (s1)).bind fun x5 =>
        bif (x4 != x5) then
          some (.inr (.inr false))
        else
          some (.inl (wr (s1 + 1)))
      else
        some (.inr (.inl ()))
  at_ := fun s gh => match s, gh with
    | s1, () => ⟨[(0, (V.sl (recs (eI .i64) (a0)) (a0).length)), (1, (V.sl (recs (eI .i64) (a1)) (a1).length)), (4, (V.v (.bool (false)))), (5, (V.v (.int .i64 (s1))))], [], 0⟩
noncomputable def F_thalweglaw02_equal : ((List Int) × (List Int)) → Option (Bool) := fun x => match x with
  | (a0, a1) =>
    bif (((a0).length : Int) != ((a1).length : Int)) then
      some false
    else
      (loopC (L_thalweglaw02_equal_1 a0 a1).step 0).bind fun e => match e with
      | (.inl ()) =>
        some true
      | (.inr r6) =>
        some r6

noncomputable def L_thalwegref02_Holds_1 (s1 : Int) (s2 : Int) (a0 : THull) : LoopD (Int × (List THullHold)) (((List THullHold))) (Unit) where
  step := fun s => match s with
    | (s16, s17) =>
      (idx? (a0.Sections) (s2)).bind fun x22 =>
      bif (decide (s16 < ((x22.Holds).length : Int))) then
        (idx? (a0.Sections) (s2)).bind fun x23 =>
        (idx? (x23.Holds) (s16)).bind fun x24 =>
        (app? (s17) (([(⟨(wr (s1 + x24.At)), x24.Lots⟩ : THullHold)] : List THullHold)) 16).bind fun l25 =>
        some (.inl ((wr (s16 + 1)), l25))
      else
        some (.inr s17)
  at_ := fun s gh => match s, gh with
    | (s16, s17), () => ⟨[(1, (V.box 0 0)), (2, (V.v (.slice none 0 0))), (3, (V.osl 2 (s17).length)), (4, (V.v (.int .i64 (s1)))), (5, (V.v (.int .i64 (s2)))), (6, (V.v (.int .i64 (s16))))], [(0, Bx.var [(V.v (.int .i64 (a0.Lot))), (V.sl (recs eTHullSection (a0.Sections)) (a0.Sections).length)] false), (2, Bx.row 75 2 (recs eTHullHold (s17)) 0)], 3⟩
noncomputable def L_thalwegref02_Holds_2 (a0 : THull) : LoopD (Int × Int × (List THullHold)) (((List THullHold))) (Unit) where
  step := fun s => match s with
    | (s1, s2, s3) =>
      bif (decide (s2 < ((a0.Sections).length : Int))) then
        (loopC (L_thalwegref02_Holds_1 s1 s2 a0).step (0, s3)).bind fun e => match e with
        | s26 =>
          (idx? (a0.Sections) (s2)).bind fun x27 =>
          some (.inl ((wr (s1 + x27.Length)), (wr (s2 + 1)), s26))
      else
        some (.inr s3)
  at_ := fun s gh => match s, gh with
    | (s1, s2, s3), () => ⟨[(1, (V.box 0 0)), (2, (V.v (.slice none 0 0))), (3, (V.osl 2 (s3).length)), (4, (V.v (.int .i64 (s1)))), (5, (V.v (.int .i64 (s2))))], [(0, Bx.var [(V.v (.int .i64 (a0.Lot))), (V.sl (recs eTHullSection (a0.Sections)) (a0.Sections).length)] false), (2, Bx.row 75 2 (recs eTHullHold (s3)) 0)], 3⟩
noncomputable def F_thalwegref02_Holds : (THull) → Option (List THullHold) := fun x => match x with
  | (a0) =>
    (loopC (L_thalwegref02_Holds_2 a0).step (0, 0, ([] : List THullHold))).bind fun e => match e with
    | s28 =>
      some s28

noncomputable def F_thalwegref01_In : (Int × Int × Int) → Option (Bool) := fun x => match x with
  | (a0, a1, a2) =>
    bif (decide (a0 ≥ a1)) then
      some (decide (a0 ≤ a2))
    else
      some false

noncomputable def L_thalwegref02_Section_1 (a0 : THullSection) : LoopD (Int) (Unit ⊕ Bool) (Unit) where
  step := fun s => match s with
    | s5 =>
      bif (decide (s5 < ((a0.Curve).length : Int))) then
        (idx? (a0.Curve) (s5)).bind fun x19 =>
        (F_thalwegref01_In (x19.Draft, 0, 1000)).bind fun y20 =>
        bif (!y20) then
          some (.inr (.inr false))
        else
          (idx? (a0.Curve) (s5)).bind fun x21 =>
          (F_thalwegref01_In (x21.Volume, 0, 100000)).bind fun y22 =>
          bif (!y22) then
            some (.inr (.inr false))
          else
            bif (s5 == 0) then
              (idx? (a0.Curve) (s5)).bind fun x23 =>
              bif (!(x23.Draft == 0 && (x23.Volume == 0 && true))) then
                some (.inr (.inr false))
              else
                bif (decide (s5 > 0)) then
                  (idx? (a0.Curve) (s5)).bind fun x24 =>
                  (idx? (a0.Curve) ((wr (s5 - 1)))).bind fun x25 =>
                  bif (decide (x24.Draft ≤ x25.Draft)) then
                    some (.inr (.inr false))
                  else
                    (idx? (a0.Curve) (s5)).bind fun x26 =>
                    (idx? (a0.Curve) ((wr (s5 - 1)))).bind fun x27 =>
                    bif (decide (x26.Volume ≤ x27.Volume)) then
                      some (.inr (.inr false))
                    else
                      some (.inl (wr (s5 + 1)))
                else
                  some (.inl (wr (s5 + 1)))
            else
              bif (decide (s5 > 0)) then
                (idx? (a0.Curve) (s5)).bind fun x28 =>
                (idx? (a0.Curve) ((wr (s5 - 1)))).bind fun x29 =>
                bif (decide (x28.Draft ≤ x29.Draft)) then
                  some (.inr (.inr false))
                else
                  (idx? (a0.Curve) (s5)).bind fun x30 =>
                  (idx? (a0.Curve) ((wr (s5 - 1)))).bind fun x31 =>
                  bif (decide (x30.Volume ≤ x31.Volume)) then
                    some (.inr (.inr false))
                  else
                    some (.inl (wr (s5 + 1)))
              else
                some (.inl (wr (s5 + 1)))
      else
        some (.inr (.inl ()))
  at_ := fun s gh => match s, gh with
    | s5, () => ⟨[(1, (V.box 0 0)), (2, (V.v (.bool (false)))), (3, (V.v (.int .i64 (s5))))], [(0, Bx.var [(V.v (.int .i64 (a0.Length))), (V.v (.int .i64 (a0.Light))), (V.v (.int .i64 (a0.Trim))), (V.sl (recs eTHullRow (a0.Curve)) (a0.Curve).length), (V.sl (recs eTHullHold (a0.Holds)) (a0.Holds).length)] false)], 1⟩
noncomputable def L_thalwegref02_Section_2 (a0 : THullSection) : LoopD (Int) (Unit ⊕ Bool) (Unit) where
  step := fun s => match s with
    | s32 =>
      bif (decide (s32 < ((a0.Holds).length : Int))) then
        (idx? (a0.Holds) (s32)).bind fun x37 =>
        (F_thalwegref01_In (x37.At, 0, a0.Length)).bind fun y38 =>
        bif (!y38) then
          some (.inr (.inr false))
        else
          (idx? (a0.Holds) (s32)).bind fun x39 =>
          (F_thalwegref01_In (x39.Lots, 0, 20)).bind fun y40 =>
          bif (!y40) then
            some (.inr (.inr false))
          else
            some (.inl (wr (s32 + 1)))
      else
        some (.inr (.inl ()))
  at_ := fun s gh => match s, gh with
    | s32, () => ⟨[(1, (V.box 0 0)), (2, (V.v (.bool (false)))), (4, (V.v (.int .i64 (s32))))], [(0, Bx.var [(V.v (.int .i64 (a0.Length))), (V.v (.int .i64 (a0.Light))), (V.v (.int .i64 (a0.Trim))), (V.sl (recs eTHullRow (a0.Curve)) (a0.Curve).length), (V.sl (recs eTHullHold (a0.Holds)) (a0.Holds).length)] false)], 1⟩
noncomputable def F_thalwegref02_Section : (THullSection) → Option (Bool) := fun x => match x with
  | (a0) =>
    (F_thalwegref01_In (a0.Length, 1, 100)).bind fun y1 =>
    bif (!y1) then
      some false
    else
      (F_thalwegref01_In (a0.Light, 0, 10000)).bind fun y2 =>
      bif (!y2) then
        some false
      else
        (F_thalwegref01_In (a0.Trim, 1, 100000)).bind fun y3 =>
        bif (!y3) then
          some false
        else
          (F_thalwegref01_In (((a0.Curve).length : Int), 2, 20)).bind fun y4 =>
          bif (!y4) then
            some false
          else
            (loopC (L_thalwegref02_Section_1 a0).step 0).bind fun e => match e with
            | (.inl ()) =>
              (loopC (L_thalwegref02_Section_2 a0).step 0).bind fun e => match e with
              | (.inl ()) =>
                some true
              | (.inr r41) =>
                some r41
            | (.inr r42) =>
              some r42

noncomputable def L_thalwegref02_Length_1 (a0 : THull) : LoopD (Int × Int) (Int) (Unit) where
  step := fun s => match s with
    | (s1, s2) =>
      bif (decide (s2 < ((a0.Sections).length : Int))) then
        (idx? (a0.Sections) (s2)).bind fun x4 =>
        some (.inl ((wr (s1 + x4.Length)), (wr (s2 + 1))))
      else
        some (.inr s1)
  at_ := fun s gh => match s, gh with
    | (s1, s2), () => ⟨[(1, (V.box 0 0)), (2, (V.v (.int .i64 (0)))), (3, (V.v (.int .i64 (s1)))), (4, (V.v (.int .i64 (s2))))], [(0, Bx.var [(V.v (.int .i64 (a0.Lot))), (V.sl (recs eTHullSection (a0.Sections)) (a0.Sections).length)] false)], 1⟩
noncomputable def F_thalwegref02_Length : (THull) → Option (Int) := fun x => match x with
  | (a0) =>
    (loopC (L_thalwegref02_Length_1 a0).step (0, 0)).bind fun e => match e with
    | s5 =>
      some s5

noncomputable def L_thalwegref02_Hull_1 (a0 : THull) : LoopD (Int) (Unit ⊕ Bool) (Unit) where
  step := fun s => match s with
    | s3 =>
      bif (decide (s3 < ((a0.Sections).length : Int))) then
        (idx? (a0.Sections) (s3)).bind fun x6 =>
        (F_thalwegref02_Section (x6)).bind fun y7 =>
        bif (!y7) then
          some (.inr (.inr false))
        else
          some (.inl (wr (s3 + 1)))
      else
        some (.inr (.inl ()))
  at_ := fun s gh => match s, gh with
    | s3, () => ⟨[(1, (V.box 0 0)), (2, (V.v (.bool (false)))), (3, (V.v (.int .i64 (s3))))], [(0, Bx.var [(V.v (.int .i64 (a0.Lot))), (V.sl (recs eTHullSection (a0.Sections)) (a0.Sections).length)] false)], 1⟩
noncomputable def F_thalwegref02_Hull : (THull) → Option (Bool) := fun x => match x with
  | (a0) =>
    (F_thalwegref01_In (a0.Lot, 1, 1000)).bind fun y1 =>
    bif (!y1) then
      some false
    else
      (F_thalwegref01_In (((a0.Sections).length : Int), 1, 6)).bind fun y2 =>
      bif (!y2) then
        some false
      else
        (loopC (L_thalwegref02_Hull_1 a0).step 0).bind fun e => match e with
        | (.inl ()) =>
          (F_thalwegref02_Length (a0)).bind fun y8 =>
          bif (decide (y8 ≤ 200)) then
            (F_thalwegref02_Holds (a0)).bind fun y9 =>
            some (decide (((y9).length : Int) ≤ 4))
          else
            some false
        | (.inr r10) =>
          some r10

noncomputable def L_thalwegref02_Limit_1 (a0 : THull) : LoopD (Int × Int) (Int) (Unit) where
  step := fun s => match s with
    | (s1, s2) =>
      bif (decide (s2 < ((a0.Sections).length : Int))) then
        (idx? (a0.Sections) (s2)).bind fun x5 =>
        (idx? (x5.Curve) ((wr (((x5.Curve).length : Int) - 1)))).bind fun x6 =>
        some (.inl ((minmax false s1 x6.Draft), (wr (s2 + 1))))
      else
        some (.inr s1)
  at_ := fun s gh => match s, gh with
    | (s1, s2), () => ⟨[(1, (V.box 0 0)), (2, (V.v (.int .i64 (0)))), (3, (V.v (.int .i64 (s1)))), (4, (V.v (.int .i64 (s2))))], [(0, Bx.var [(V.v (.int .i64 (a0.Lot))), (V.sl (recs eTHullSection (a0.Sections)) (a0.Sections).length)] false)], 1⟩
noncomputable def F_thalwegref02_Limit : (THull) → Option (Int) := fun x => match x with
  | (a0) =>
    (loopC (L_thalwegref02_Limit_1 a0).step (1000, 0)).bind fun e => match e with
    | s7 =>
      some s7

noncomputable def L_thalwegref02_Volume_1 (a1 : Int) (s1 : Int) (s2 : Int) (x10 : THullSection) (a0 : THull) : LoopD (Int) (Int) (Unit) where
  step := fun s => match s with
    | s11 =>
      (idx? (x10.Curve) (s11)).bind fun x13 =>
      bif (decide (x13.Draft < a1)) then
        some (.inl (wr (s11 + 1)))
      else
        some (.inr s11)
  at_ := fun s gh => match s, gh with
    | s11, () => ⟨[(1, (V.v (.int .i64 (a1)))), (2, (V.box 0 0)), (4, (V.v (.int .i64 (0)))), (5, (V.v (.int .i64 (s1)))), (6, (V.v (.int .i64 (s2)))), (7, (V.sl (recs eTHullRow (x10.Curve)) (x10.Curve).length)), (8, (V.v (.int .i64 (s11))))], [(0, Bx.var [(V.v (.int .i64 (a0.Lot))), (V.sl (recs eTHullSection (a0.Sections)) (a0.Sections).length)] false)], 1⟩
noncomputable def L_thalwegref02_Volume_2 (a1 : Int) (a0 : THull) : LoopD (Int × Int) (Int) (Unit) where
  step := fun s => match s with
    | (s1, s2) =>
      bif (decide (s2 < ((a0.Sections).length : Int))) then
        (idx? (a0.Sections) (s2)).bind fun x10 =>
        (loopC (L_thalwegref02_Volume_1 a1 s1 s2 x10 a0).step 1).bind fun e => match e with
        | s14 =>
          (idx? (x10.Curve) ((wr (s14 - 1)))).bind fun x15 =>
          (idx? (x10.Curve) (s14)).bind fun x16 =>
          (nz? ((wr (x16.Draft - x15.Draft)))).bind fun _ =>
          some (.inl ((wr (s1 + (wr (x15.Volume + (wr (Int.tdiv (wr ((wr (a1 - x15.Draft)) * (wr (x16.Volume - x15.Volume)))) (wr (x16.Draft - x15.Draft)))))))), (wr (s2 + 1))))
      else
        some (.inr s1)
  at_ := fun s gh => match s, gh with
    | (s1, s2), () => ⟨[(1, (V.v (.int .i64 (a1)))), (2, (V.box 0 0)), (4, (V.v (.int .i64 (0)))), (5, (V.v (.int .i64 (s1)))), (6, (V.v (.int .i64 (s2))))], [(0, Bx.var [(V.v (.int .i64 (a0.Lot))), (V.sl (recs eTHullSection (a0.Sections)) (a0.Sections).length)] false)], 1⟩
noncomputable def F_thalwegref02_Volume : (THull × Int) → Option (Int) := fun x => match x with
  | (a0, a1) =>
    (loopC (L_thalwegref02_Volume_2 a1 a0).step (0, 0)).bind fun e => match e with
    | s17 =>
      some s17

noncomputable def F_thalwegref01_Valid : (TBounds × Int × Int) → Option (Bool) := fun x => match x with
  | (a0, a1, a2) =>
    (F_thalwegref01_In (a0.Low, a1, a2)).bind fun y1 =>
    bif y1 then
      (F_thalwegref01_In (a0.High, a0.Low, a2)).bind fun y2 =>
      some y2
    else
      some false

noncomputable def F_thalwegref02_Density : (TBounds) → Option (Bool) := fun x => match x with
  | (a0) =>
    (F_thalwegref01_Valid (a0, 900, 1100)).bind fun y1 =>
    some y1

noncomputable def L_thalwegref02_Load_1 (a1 : List Int) (y2 : List THullHold) (a2 : TBounds) : LoopD (Int) (Unit ⊕ Int) (Unit) where
  step := fun s => match s with
    | s3 =>
      bif (decide (s3 < ((a1).length : Int))) then
        (idx? (a1) (s3)).bind fun x7 =>
        (idx? (y2) (s3)).bind fun x8 =>
        (F_thalwegref01_In (x7, 0, x8.Lots)).bind fun y9 =>
        bif (!y9) then
          some (.inr (.inr 3))
        else
          some (.inl (wr (s3 + 1)))
      else
        some (.inr (.inl ()))
  at_ := fun s gh => match s, gh with
    | s3, () => ⟨[(1, (V.sl (recs (eI .i64) (a1)) (a1).length)), (5, (V.box 1 0)), (6, (V.v (.int .i64 (0)))), (7, (V.sl (recs eTHullHold (y2)) (y2).length)), (8, (V.v (.int .i64 (s3))))], [(1, Bx.var [(V.v (.int .i64 (a2.Low))), (V.v (.int .i64 (a2.High)))] false)], 2⟩
noncomputable def F_thalwegref02_Load : (THull × (List Int) × TBounds) → Option (Int) := fun x => match x with
  | (a0, a1, a2) =>
    (F_thalwegref02_Hull (a0)).bind fun y1 =>
    bif (!y1) then
      some 2
    else
      (F_thalwegref02_Holds (a0)).bind fun y2 =>
      bif (((a1).length : Int) != ((y2).length : Int)) then
        some 4
      else
        (loopC (L_thalwegref02_Load_1 a1 y2 a2).step 0).bind fun e => match e with
        | (.inl ()) =>
          (F_thalwegref02_Density (a2)).bind fun y10 =>
          bif (!y10) then
            some 2
          else
            some 0
        | (.inr r11) =>
          some r11

noncomputable def F_thalwegref01_Ceil : (Int × Int) → Option (Int) := fun x => match x with
  | (a0, a1) =>
    (nz? (a1)).bind fun _ =>
    bif (decide ((wr ((wr (Int.tdiv a0 a1)) * a1)) < a0)) then
      some (wr ((wr (Int.tdiv a0 a1)) + 1))
    else
      some (wr (Int.tdiv a0 a1))

noncomputable def L_thalwegref02_Mass_1 (a1 : List Int) (a0 : THull) : LoopD (Int × Int) (Int) (Unit) where
  step := fun s => match s with
    | (s1, s2) =>
      bif (decide (s2 < ((a0.Sections).length : Int))) then
        (idx? (a0.Sections) (s2)).bind fun x4 =>
        some (.inl ((wr (s1 + x4.Light)), (wr (s2 + 1))))
      else
        some (.inr s1)
  at_ := fun s gh => match s, gh with
    | (s1, s2), () => ⟨[(1, (V.sl (recs (eI .i64) (a1)) (a1).length)), (2, (V.box 0 0)), (4, (V.v (.int .i64 (0)))), (5, (V.v (.int .i64 (s1)))), (6, (V.v (.int .i64 (s2))))], [(0, Bx.var [(V.v (.int .i64 (a0.Lot))), (V.sl (recs eTHullSection (a0.Sections)) (a0.Sections).length)] false)], 1⟩
noncomputable def L_thalwegref02_Mass_2 (a1 : List Int) (a0 : THull) : LoopD (Int × Int) (Int) (Unit) where
  step := fun s => match s with
    | (s6, s7) =>
      bif (decide (s7 < ((a1).length : Int))) then
        (idx? (a1) (s7)).bind fun x9 =>
        some (.inl ((wr (s6 + (wr (x9 * a0.Lot)))), (wr (s7 + 1))))
      else
        some (.inr s6)
  at_ := fun s gh => match s, gh with
    | (s6, s7), () => ⟨[(1, (V.sl (recs (eI .i64) (a1)) (a1).length)), (2, (V.box 0 0)), (4, (V.v (.int .i64 (0)))), (5, (V.v (.int .i64 (s6)))), (7, (V.v (.int .i64 (s7))))], [(0, Bx.var [(V.v (.int .i64 (a0.Lot))), (V.sl (recs eTHullSection (a0.Sections)) (a0.Sections).length)] false)], 1⟩
noncomputable def F_thalwegref02_Mass : (THull × (List Int)) → Option (Int) := fun x => match x with
  | (a0, a1) =>
    (loopC (L_thalwegref02_Mass_1 a1 a0).step (0, 0)).bind fun e => match e with
    | s5 =>
      (loopC (L_thalwegref02_Mass_2 a1 a0).step (s5, 0)).bind fun e => match e with
      | s10 =>
        some s10

noncomputable def L_thalwegref02_Mean_1 (y2 : Int) (a0 : THull) : LoopD (Int) (Unit ⊕ Int) (Unit) where
  step := fun s => match s with
    | s3 =>
      (F_thalwegref02_Limit (a0)).bind fun y6 =>
      bif (decide (s3 ≤ y6)) then
        (F_thalwegref02_Volume (a0, s3)).bind fun y7 =>
        bif (decide (y7 ≥ y2)) then
          some (.inr (.inr s3))
        else
          some (.inl (wr (s3 + 1)))
      else
        some (.inr (.inl ()))
  at_ := fun s gh => match s, gh with
    | s3, () => ⟨[(3, (V.box 0 0)), (6, (V.v (.int .i64 (0)))), (7, (V.v (.int .i64 (y2)))), (8, (V.v (.int .i64 (s3))))], [(0, Bx.var [(V.v (.int .i64 (a0.Lot))), (V.sl (recs eTHullSection (a0.Sections)) (a0.Sections).length)] false)], 1⟩
noncomputable def F_thalwegref02_Mean : (THull × (List Int) × Int) → Option (Int) := fun x => match x with
  | (a0, a1, a2) =>
    (F_thalwegref02_Mass (a0, a1)).bind fun y1 =>
    (F_thalwegref01_Ceil ((wr (y1 * 1000)), a2)).bind fun y2 =>
    (loopC (L_thalwegref02_Mean_1 y2 a0).step 0).bind fun e => match e with
    | (.inl ()) =>
      some (-1)
    | (.inr r8) =>
      some r8

noncomputable def L_thalwegref02_Moment_1 (a1 : List Int) (y1 : Int) (y2 : List THullHold) (a0 : THull) : LoopD (Int × Int × Int) (Int) (Unit) where
  step := fun s => match s with
    | (s3, s4, s5) =>
      bif (decide (s5 < ((a0.Sections).length : Int))) then
        (idx? (a0.Sections) (s5)).bind fun x7 =>
        some (.inl ((wr (s3 + (wr (x7.Light * (wr ((wr ((wr (2 * s4)) + x7.Length)) - y1)))))), (wr (s4 + x7.Length)), (wr (s5 + 1))))
      else
        some (.inr s3)
  at_ := fun s gh => match s, gh with
    | (s3, s4, s5), () => ⟨[(1, (V.sl (recs (eI .i64) (a1)) (a1).length)), (2, (V.box 0 0)), (4, (V.v (.int .i64 (0)))), (5, (V.v (.int .i64 (s3)))), (6, (V.v (.int .i64 (s4)))), (7, (V.v (.int .i64 (y1)))), (8, (V.sl (recs eTHullHold (y2)) (y2).length)), (9, (V.v (.int .i64 (s5))))], [(0, Bx.var [(V.v (.int .i64 (a0.Lot))), (V.sl (recs eTHullSection (a0.Sections)) (a0.Sections).length)] false)], 1⟩
noncomputable def L_thalwegref02_Moment_2 (a1 : List Int) (y1 : Int) (y2 : List THullHold) (a0 : THull) : LoopD (Int × Int) (Int) (Unit) where
  step := fun s => match s with
    | (s9, s10) =>
      bif (decide (s10 < ((a1).length : Int))) then
        (idx? (a1) (s10)).bind fun x13 =>
        (idx? (y2) (s10)).bind fun x14 =>
        some (.inl ((wr (s9 + (wr ((wr (x13 * a0.Lot)) * (wr ((wr (2 * x14.At)) - y1)))))), (wr (s10 + 1))))
      else
        some (.inr s9)
  at_ := fun s gh => match s, gh with
    | (s9, s10), () => ⟨[(1, (V.sl (recs (eI .i64) (a1)) (a1).length)), (2, (V.box 0 0)), (4, (V.v (.int .i64 (0)))), (5, (V.v (.int .i64 (s9)))), (7, (V.v (.int .i64 (y1)))), (8, (V.sl (recs eTHullHold (y2)) (y2).length)), (11, (V.v (.int .i64 (s10))))], [(0, Bx.var [(V.v (.int .i64 (a0.Lot))), (V.sl (recs eTHullSection (a0.Sections)) (a0.Sections).length)] false)], 1⟩
noncomputable def F_thalwegref02_Moment : (THull × (List Int)) → Option (Int) := fun x => match x with
  | (a0, a1) =>
    (F_thalwegref02_Length (a0)).bind fun y1 =>
    (F_thalwegref02_Holds (a0)).bind fun y2 =>
    (loopC (L_thalwegref02_Moment_1 a1 y1 y2 a0).step (0, 0, 0)).bind fun e => match e with
    | s8 =>
      (loopC (L_thalwegref02_Moment_2 a1 y1 y2 a0).step (s8, 0)).bind fun e => match e with
      | s15 =>
        some s15

noncomputable def L_thalwegref02_Trim_1 (y1 : Int) (a0 : THull) : LoopD (Int × Int) (Int) (Unit) where
  step := fun s => match s with
    | (s2, s3) =>
      bif (decide (s3 < ((a0.Sections).length : Int))) then
        (idx? (a0.Sections) (s3)).bind fun x5 =>
        some (.inl ((wr (s2 + x5.Trim)), (wr (s3 + 1))))
      else
        some (.inr s2)
  at_ := fun s gh => match s, gh with
    | (s2, s3), () => ⟨[(2, (V.box 0 0)), (4, (V.v (.int .i64 (0)))), (5, (V.v (.int .i64 (s2)))), (6, (V.v (.int .i64 (y1)))), (7, (V.v (.int .i64 (s3))))], [(0, Bx.var [(V.v (.int .i64 (a0.Lot))), (V.sl (recs eTHullSection (a0.Sections)) (a0.Sections).length)] false)], 1⟩
noncomputable def F_thalwegref02_Trim : (THull × (List Int)) → Option (Int) := fun x => match x with
  | (a0, a1) =>
    (F_thalwegref02_Moment (a0, a1)).bind fun y1 =>
    (loopC (L_thalwegref02_Trim_1 y1 a0).step (0, 0)).bind fun e => match e with
    | s6 =>
      (F_thalwegref01_Ceil ((minmax true y1 (wr (0 - y1))), (wr (4 * s6)))).bind fun y7 =>
      some y7

noncomputable def F_thalwegref02_Float : (THull × (List Int) × TBounds) → Option (THullFloat × Bool) := fun x => match x with
  | (a0, a1, a2) =>
    (F_thalwegref02_Mean (a0, a1, a2.High)).bind fun y1 =>
    (F_thalwegref02_Mean (a0, a1, a2.Low)).bind fun y2 =>
    (F_thalwegref02_Trim (a0, a1)).bind fun y3 =>
    (F_thalwegref02_Moment (a0, a1)).bind fun y4 =>
    bif (decide (y2 < 0)) then
      some ((⟨(⟨0, 0⟩ : TBounds), (⟨0, 0⟩ : TBounds), 0⟩ : THullFloat), false)
    else
      (F_thalwegref02_Limit (a0)).bind fun y5 =>
      bif (decide ((wr (y2 + y3)) > y5)) then
        some ((⟨(⟨0, 0⟩ : TBounds), (⟨0, 0⟩ : TBounds), 0⟩ : THullFloat), false)
      else
        bif (decide (y4 < 0)) then
          bif (decide (y4 > 0)) then
            some ((⟨(⟨y1, y2⟩ : TBounds), (⟨(wr (y1 + y3)), (wr (y2 + y3))⟩ : TBounds), 1⟩ : THullFloat), true)
          else
            some ((⟨(⟨y1, y2⟩ : TBounds), (⟨(wr (y1 + y3)), (wr (y2 + y3))⟩ : TBounds), (-1)⟩ : THullFloat), true)
        else
          bif (decide (y4 > 0)) then
            some ((⟨(⟨y1, y2⟩ : TBounds), (⟨(wr (y1 + y3)), (wr (y2 + y3))⟩ : TBounds), 1⟩ : THullFloat), true)
          else
            some ((⟨(⟨y1, y2⟩ : TBounds), (⟨(wr (y1 + y3)), (wr (y2 + y3))⟩ : TBounds), 0⟩ : THullFloat), true)

noncomputable def F_thalweglaw02_HullFloats : (Tthalweglaw02_Loaded × Int) → Option (Bool) := fun x => match x with
  | (a0, a1) =>
    (F_thalweglaw02_great (a0.Hull)).bind fun y1 =>
    bif y1 then
      (F_thalweglaw02_known ()).bind fun y2 =>
      some y2
    else
      bif (decide (((a0.Load).length : Int) > 20)) then
        (F_thalweglaw02_known ()).bind fun y3 =>
        some y3
      else
        (F_thalweglaw02_own (a0.Hull)).bind fun y4 =>
        (F_thalweglaw02_numbers (a0.Load)).bind fun y5 =>
        (F_hull_Check (y4)).bind fun y6 =>
        (F_hull_Volume (y4, a1)).bind fun y7 =>
        (F_hull_Float (y4, y5, a0.Density)).bind fun y8 =>
        (F_thalweglaw02_same (y4, a0.Hull)).bind fun y9 =>
        bif (!y9) then
          some false
        else
          (F_thalweglaw02_equal (y5, a0.Load)).bind fun y10 =>
          bif (!y10) then
            some false
          else
            (F_thalwegref02_Hull (a0.Hull)).bind fun y11 =>
            bif (!y11) then
              bif (y6 == 2) then
                bif (y7.2 == y6) then
                  bif (y8.2 == y6) then
                    bif (y7.1 == 0) then
                      bif (y8.1.Mean.Low == 0 && (y8.1.Mean.High == 0 && (y8.1.Deep.Low == 0 && (y8.1.Deep.High == 0 && (y8.1.Head == 0 && true))))) then
                        (F_thalweglaw02_known ()).bind fun y12 =>
                        some y12
                      else
                        some false
                    else
                      some false
                  else
                    some false
                else
                  some false
              else
                some false
            else
              bif (decide (a1 < 0)) then
                bif (y7.2 != 3) then
                  some false
                else
                  bif (y7.1 != 0) then
                    some false
                  else
                    (F_thalwegref02_Load (a0.Hull, a0.Load, a0.Density)).bind fun y13 =>
                    bif (y13 == 0) then
                      (F_thalwegref02_Float (a0.Hull, a0.Load, a0.Density)).bind fun y14 =>
                      bif y14.2 then
                        bif (y6 == 0) then
                          bif (y8.2 == y13) then
                            bif (y8.1.Mean.Low == y14.1.Mean.Low && (y8.1.Mean.High == y14.1.Mean.High && (y8.1.Deep.Low == y14.1.Deep.Low && (y8.1.Deep.High == y14.1.Deep.High && (y8.1.Head == y14.1.Head && true))))) then
                              (F_thalweglaw02_known ()).bind fun y15 =>
                              some y15
                            else
                              some false
                          else
                            some false
                        else
                          some false
                      else
                        bif (y6 == 0) then
                          bif (y8.2 == 8) then
                            bif (y8.1.Mean.Low == 0 && (y8.1.Mean.High == 0 && (y8.1.Deep.Low == 0 && (y8.1.Deep.High == 0 && (y8.1.Head == 0 && true))))) then
                              (F_thalweglaw02_known ()).bind fun y16 =>
                              some y16
                            else
                              some false
                          else
                            some false
                        else
                          some false
                    else
                      bif (y6 == 0) then
                        bif (y8.2 == y13) then
                          bif (y8.1.Mean.Low == 0 && (y8.1.Mean.High == 0 && (y8.1.Deep.Low == 0 && (y8.1.Deep.High == 0 && (y8.1.Head == 0 && true))))) then
                            (F_thalweglaw02_known ()).bind fun y17 =>
                            some y17
                          else
                            some false
                        else
                          some false
                      else
                        some false
              else
                (F_thalwegref02_Limit (a0.Hull)).bind fun y18 =>
                bif (decide (a1 > y18)) then
                  bif (y7.2 != 3) then
                    some false
                  else
                    bif (y7.1 != 0) then
                      some false
                    else
                      (F_thalwegref02_Load (a0.Hull, a0.Load, a0.Density)).bind fun y19 =>
                      bif (y19 == 0) then
                        (F_thalwegref02_Float (a0.Hull, a0.Load, a0.Density)).bind fun y20 =>
                        bif y20.2 then
                          bif (y6 == 0) then
                            bif (y8.2 == y19) then
                              bif (y8.1.Mean.Low == y20.1.Mean.Low && (y8.1.Mean.High == y20.1.Mean.High && (y8.1.Deep.Low == y20.1.Deep.Low && (y8.1.Deep.High == y20.1.Deep.High && (y8.1.Head == y20.1.Head && true))))) then
                                (F_thalweglaw02_known ()).bind fun y21 =>
                                some y21
                              else
                                some false
                            else
                              some false
                          else
                            some false
                        else
                          bif (y6 == 0) then
                            bif (y8.2 == 8) then
                              bif (y8.1.Mean.Low == 0 && (y8.1.Mean.High == 0 && (y8.1.Deep.Low == 0 && (y8.1.Deep.High == 0 && (y8.1.Head == 0 && true))))) then
                                (F_thalweglaw02_known ()).bind fun y22 =>
                                some y22
                              else
                                some false
                            else
                              some false
                          else
                            some false
                      else
                        bif (y6 == 0) then
                          bif (y8.2 == y19) then
                            bif (y8.1.Mean.Low == 0 && (y8.1.Mean.High == 0 && (y8.1.Deep.Low == 0 && (y8.1.Deep.High == 0 && (y8.1.Head == 0 && true))))) then
                              (F_thalweglaw02_known ()).bind fun y23 =>
                              some y23
                            else
                              some false
                          else
                            some false
                        else
                          some false
                else
                  bif (y7.2 != 0) then
                    some false
                  else
                    (F_thalwegref02_Volume (a0.Hull, a1)).bind fun y24 =>
                    bif (y7.1 != y24) then
                      some false
                    else
                      (F_thalwegref02_Load (a0.Hull, a0.Load, a0.Density)).bind fun y25 =>
                      bif (y25 == 0) then
                        (F_thalwegref02_Float (a0.Hull, a0.Load, a0.Density)).bind fun y26 =>
                        bif y26.2 then
                          bif (y6 == 0) then
                            bif (y8.2 == y25) then
                              bif (y8.1.Mean.Low == y26.1.Mean.Low && (y8.1.Mean.High == y26.1.Mean.High && (y8.1.Deep.Low == y26.1.Deep.Low && (y8.1.Deep.High == y26.1.Deep.High && (y8.1.Head == y26.1.Head && true))))) then
                                (F_thalweglaw02_known ()).bind fun y27 =>
                                some y27
                              else
                                some false
                            else
                              some false
                          else
                            some false
                        else
                          bif (y6 == 0) then
                            bif (y8.2 == 8) then
                              bif (y8.1.Mean.Low == 0 && (y8.1.Mean.High == 0 && (y8.1.Deep.Low == 0 && (y8.1.Deep.High == 0 && (y8.1.Head == 0 && true))))) then
                                (F_thalweglaw02_known ()).bind fun y28 =>
                                some y28
                              else
                                some false
                            else
                              some false
                          else
                            some false
                      else
                        bif (y6 == 0) then
                          bif (y8.2 == y25) then
                            bif (y8.1.Mean.Low == 0 && (y8.1.Mean.High == 0 && (y8.1.Deep.Low == 0 && (y8.1.Deep.High == 0 && (y8.1.Head == 0 && true))))) then
                              (F_thalweglaw02_known ()).bind fun y29 =>
                              some y29
                            else
                              some false
                          else
                            some false
                        else
                          some false
end Go.Ev
/- What the arguments of the law are. -/
set_option linter.unusedVariables false
set_option linter.unusedSimpArgs false
namespace Go.Ev
open Go.Proofs
set_option maxRecDepth 100000
theorem typ_list {α : Type} {enc : α → List V} {k : α → Prop} {n : Nat} {e : TypeId} (h : ∀ vs, Typ Tryz.prog n e vs → ∃ a, vs = enc a ∧ k a) : ∀ (ls : List (List V)), (∀ l ∈ ls, Typ Tryz.prog n e l) → ∃ l : List α, ls.flatten = recs enc l ∧ ls.length = l.length ∧ ∀ x ∈ l, k x
  | [], _ => ⟨[], rfl, rfl, fun x hx => by cases hx⟩
  | x :: ls, hl => by
    obtain ⟨a, rfl, ha⟩ := h x (hl x (by simp))
    obtain ⟨l, h1, h2, h3⟩ := typ_list h ls fun y hy => hl y (by simp [hy])
    refine ⟨a :: l, by simp [recs, List.flatten_cons, h1], by simp [h2], ?_⟩
    intro x hx
    cases hx with
    | head => exact ha
    | tail _ hx => exact h3 x hx
def kIi64 (i : Int) : Prop := IntKind.i64.min ≤ i ∧ i ≤ IntKind.i64.max
theorem typ_Ii64_3 {n : Nat} {vs : List V} (h : Typ Tryz.prog (n + 1) 3 vs) : ∃ x : Int, vs = [(V.v (.int .i64 (x)))] ∧ kIi64 (x) := by
  simp only [Typ, Tryz.underlying3] at h
  obtain ⟨i, rfl, hw⟩ := h
  refine ⟨i, rfl, ?_⟩
  simp only [Lit.wf, Bool.and_eq_true, decide_eq_true_eq] at hw
  exact hw
def kTHullRow (x : THullRow) : Prop := kIi64 (x.Draft) ∧ kIi64 (x.Volume)
theorem typ_THullRow_136 {n : Nat} {vs : List V} (h : Typ Tryz.prog (n + 2) 136 vs) : ∃ x : THullRow, vs = eTHullRow x ∧ kTHullRow x := by
  unfold Typ at h
  simp only [Tryz.underlying136] at h
  obtain ⟨ls, rfl, h⟩ := h
  obtain ⟨v0, v1, rfl, h0, h1⟩ := all2_2 h
  obtain ⟨x0, rfl, k0⟩ := typ_Ii64_3 (n := n + 0) h0
  obtain ⟨x1, rfl, k1⟩ := typ_Ii64_3 (n := n + 0) h1
  exact ⟨⟨x0, x1⟩, rfl, k0, k1⟩
def kLTHullRow (l : List THullRow) : Prop := l.length ≤ 140737488355328 ∧ ∀ x ∈ l, kTHullRow (x)
theorem typ_LTHullRow_110 {n : Nat} {vs : List V} (h : Typ Tryz.prog (n + 3) 110 vs) : ∃ x : List THullRow, vs = [(V.sl (recs eTHullRow (x)) (x).length)] ∧ kLTHullRow (x) := by
  unfold Typ at h
  simp only [Tryz.underlying110] at h
  obtain ⟨ls, rfl, h1, h2⟩ := h
  obtain ⟨l, h3, h4, h5⟩ := typ_list (enc := eTHullRow) (fun vs hv => typ_THullRow_136 (n := n) hv) ls h1
  refine ⟨l, by rw [h3, h4], ?_, h5⟩
  have hb : Tryz.prog.bytesOf 136 = 16 := by kernel_rfl
  rw [hb, h4] at h2
  have : reachBytes = 140737488351232 := rfl
  omega
def kTHullHold (x : THullHold) : Prop := kIi64 (x.At) ∧ kIi64 (x.Lots)
theorem typ_THullHold_75 {n : Nat} {vs : List V} (h : Typ Tryz.prog (n + 2) 75 vs) : ∃ x : THullHold, vs = eTHullHold x ∧ kTHullHold x := by
  unfold Typ at h
  simp only [Tryz.underlying75] at h
  obtain ⟨ls, rfl, h⟩ := h
  obtain ⟨v0, v1, rfl, h0, h1⟩ := all2_2 h
  obtain ⟨x0, rfl, k0⟩ := typ_Ii64_3 (n := n + 0) h0
  obtain ⟨x1, rfl, k1⟩ := typ_Ii64_3 (n := n + 0) h1
  exact ⟨⟨x0, x1⟩, rfl, k0, k1⟩
def kLTHullHold (l : List THullHold) : Prop := l.length ≤ 140737488355328 ∧ ∀ x ∈ l, kTHullHold (x)
theorem typ_LTHullHold_72 {n : Nat} {vs : List V} (h : Typ Tryz.prog (n + 3) 72 vs) : ∃ x : List THullHold, vs = [(V.sl (recs eTHullHold (x)) (x).length)] ∧ kLTHullHold (x) := by
  unfold Typ at h
  simp only [Tryz.underlying72] at h
  obtain ⟨ls, rfl, h1, h2⟩ := h
  obtain ⟨l, h3, h4, h5⟩ := typ_list (enc := eTHullHold) (fun vs hv => typ_THullHold_75 (n := n) hv) ls h1
  refine ⟨l, by rw [h3, h4], ?_, h5⟩
  have hb : Tryz.prog.bytesOf 75 = 16 := by kernel_rfl
  rw [hb, h4] at h2
  have : reachBytes = 140737488351232 := rfl
  omega
def kTHullSection (x : THullSection) : Prop := kIi64 (x.Length) ∧ kIi64 (x.Light) ∧ kIi64 (x.Trim) ∧ kLTHullRow (x.Curve) ∧ kLTHullHold (x.Holds)
theorem typ_THullSection_112 {n : Nat} {vs : List V} (h : Typ Tryz.prog (n + 4) 112 vs) : ∃ x : THullSection, vs = eTHullSection x ∧ kTHullSection x := by
  unfold Typ at h
  simp only [Tryz.underlying112] at h
  obtain ⟨ls, rfl, h⟩ := h
  obtain ⟨v0, v1, v2, v3, v4, rfl, h0, h1, h2, h3, h4⟩ := all2_5 h
  obtain ⟨x0, rfl, k0⟩ := typ_Ii64_3 (n := n + 2) h0
  obtain ⟨x1, rfl, k1⟩ := typ_Ii64_3 (n := n + 2) h1
  obtain ⟨x2, rfl, k2⟩ := typ_Ii64_3 (n := n + 2) h2
  obtain ⟨x3, rfl, k3⟩ := typ_LTHullRow_110 (n := n + 0) h3
  obtain ⟨x4, rfl, k4⟩ := typ_LTHullHold_72 (n := n + 0) h4
  exact ⟨⟨x0, x1, x2, x3, x4⟩, rfl, k0, k1, k2, k3, k4⟩
def kLTHullSection (l : List THullSection) : Prop := l.length ≤ 140737488355328 ∧ ∀ x ∈ l, kTHullSection (x)
theorem typ_LTHullSection_22 {n : Nat} {vs : List V} (h : Typ Tryz.prog (n + 5) 22 vs) : ∃ x : List THullSection, vs = [(V.sl (recs eTHullSection (x)) (x).length)] ∧ kLTHullSection (x) := by
  unfold Typ at h
  simp only [Tryz.underlying22] at h
  obtain ⟨ls, rfl, h1, h2⟩ := h
  obtain ⟨l, h3, h4, h5⟩ := typ_list (enc := eTHullSection) (fun vs hv => typ_THullSection_112 (n := n) hv) ls h1
  refine ⟨l, by rw [h3, h4], ?_, h5⟩
  have hb : Tryz.prog.bytesOf 112 = 72 := by kernel_rfl
  rw [hb, h4] at h2
  have : reachBytes = 140737488351232 := rfl
  omega
def kTHull (x : THull) : Prop := kIi64 (x.Lot) ∧ kLTHullSection (x.Sections)
theorem typ_THull_24 {n : Nat} {vs : List V} (h : Typ Tryz.prog (n + 6) 24 vs) : ∃ x : THull, vs = eTHull x ∧ kTHull x := by
  unfold Typ at h
  simp only [Tryz.underlying24] at h
  obtain ⟨ls, rfl, h⟩ := h
  obtain ⟨v0, v1, rfl, h0, h1⟩ := all2_2 h
  obtain ⟨x0, rfl, k0⟩ := typ_Ii64_3 (n := n + 4) h0
  obtain ⟨x1, rfl, k1⟩ := typ_LTHullSection_22 (n := n + 0) h1
  exact ⟨⟨x0, x1⟩, rfl, k0, k1⟩
def kLIi64 (l : List Int) : Prop := l.length ≤ 140737488355328 ∧ ∀ x ∈ l, kIi64 (x)
theorem typ_LIi64_25 {n : Nat} {vs : List V} (h : Typ Tryz.prog (n + 2) 25 vs) : ∃ x : List Int, vs = [(V.sl (recs (eI .i64) (x)) (x).length)] ∧ kLIi64 (x) := by
  unfold Typ at h
  simp only [Tryz.underlying25] at h
  obtain ⟨ls, rfl, h1, h2⟩ := h
  obtain ⟨l, h3, h4, h5⟩ := typ_list (enc := (eI .i64)) (fun vs hv => typ_Ii64_3 (n := n) hv) ls h1
  refine ⟨l, by rw [h3, h4], ?_, h5⟩
  have hb : Tryz.prog.bytesOf 3 = 8 := by kernel_rfl
  rw [hb, h4] at h2
  have : reachBytes = 140737488351232 := rfl
  omega
def kTBounds (x : TBounds) : Prop := kIi64 (x.Low) ∧ kIi64 (x.High)
theorem typ_TBounds_27 {n : Nat} {vs : List V} (h : Typ Tryz.prog (n + 2) 27 vs) : ∃ x : TBounds, vs = eTBounds x ∧ kTBounds x := by
  unfold Typ at h
  simp only [Tryz.underlying27] at h
  obtain ⟨ls, rfl, h⟩ := h
  obtain ⟨v0, v1, rfl, h0, h1⟩ := all2_2 h
  obtain ⟨x0, rfl, k0⟩ := typ_Ii64_3 (n := n + 0) h0
  obtain ⟨x1, rfl, k1⟩ := typ_Ii64_3 (n := n + 0) h1
  exact ⟨⟨x0, x1⟩, rfl, k0, k1⟩
def kTthalweglaw02_Loaded (x : Tthalweglaw02_Loaded) : Prop := kTHull (x.Hull) ∧ kLIi64 (x.Load) ∧ kTBounds (x.Density)
theorem typ_Tthalweglaw02_Loaded_29 {n : Nat} {vs : List V} (h : Typ Tryz.prog (n + 7) 29 vs) : ∃ x : Tthalweglaw02_Loaded, vs = eTthalweglaw02_Loaded x ∧ kTthalweglaw02_Loaded x := by
  unfold Typ at h
  simp only [Tryz.underlying29] at h
  obtain ⟨ls, rfl, h⟩ := h
  obtain ⟨v0, v1, v2, rfl, h0, h1, h2⟩ := all2_3 h
  obtain ⟨x0, rfl, k0⟩ := typ_THull_24 (n := n + 0) h0
  obtain ⟨x1, rfl, k1⟩ := typ_LIi64_25 (n := n + 4) h1
  obtain ⟨x2, rfl, k2⟩ := typ_TBounds_27 (n := n + 4) h2
  exact ⟨⟨x0, x1, x2⟩, rfl, k0, k1, k2⟩
end Go.Ev
/- Tests that are decided by other tests. -/
namespace Go.Ev
theorem eqT_ne {α : Type} [BEq α] {a b : α} (h : (a == b) = true) : (a != b) = false := by rw [bne, h]; rfl
theorem eqF_ne {α : Type} [BEq α] {a b : α} (h : (a == b) = false) : (a != b) = true := by rw [bne, h]; rfl
theorem neT_eq {α : Type} [BEq α] {a b : α} (h : (a != b) = true) : (a == b) = false := by
  unfold bne at h; cases e : (a == b) with
  | true => rw [e] at h; cases h
  | false => rfl
theorem neF_eq {α : Type} [BEq α] {a b : α} (h : (a != b) = false) : (a == b) = true := by
  unfold bne at h; cases e : (a == b) with
  | true => rfl
  | false => rw [e] at h; cases h
end Go.Ev
/- The functions do what is said. -/
set_option linter.unusedVariables false
set_option linter.unusedSimpArgs false
namespace Go.Ev
open Go.Proofs
set_option maxHeartbeats 8000000
set_option maxRecDepth 100000
theorem mix : Tryz.prog.follows .mixedOrders = true := by kernel_rfl
@[reducible] noncomputable def c_thalweglaw02_great : Con := conF F_thalweglaw02_great (fun x => match x with | (a0) => [(V.agg (eTHull a0))]) (fun r => (V.v (.bool (r))))
theorem h_thalweglaw02_great : Has Tryz.prog 9 c_thalweglaw02_great := by
  refine hasF ctx_nil mix Tryz.func9 rfl (by kernel_rfl) ?_
  rintro a0 r hF
  refine ⟨of_decide_eq_true rfl, ?_⟩
  refine st1 ?_
  refine st_loopF (e_assoc hF) () [(0, _)] ⟨sT, sS, by rfl, by rfl⟩ ?_
  · rintro n _ _ x hx1 hF
    (conv => arg 7; whnf); (conv => arg 8; whnf); (conv => arg 9; whnf)
    refine st1 ?_
    rcases e_bif hF with ⟨hb8, hF⟩ | ⟨hb8, hF⟩ <;> (first | rw [hb8] | (conv => arg 7; rw [hb8]))
    · refine st1 ?_
      rcases e_bif hF with ⟨hb9, hF⟩ | ⟨hb9, hF⟩ <;> (first | rw [hb9] | (conv => arg 7; rw [hb9]))
      · refine st1 ?_
        obtain ⟨_, h, hF⟩ := e_bind hF
        (first | refine o_ia (enc := eTHullSection) (s := 5) h (fun _ => rfl) (by decide) ?_ | refine o_iaT (enc := eTHullSection) (s := 5) h (fun _ => rfl) (by decide) ?_)
        intro _
        refine st1 ?_
        rcases e_bif hF with ⟨hb10, hF⟩ | ⟨hb10, hF⟩ <;> (first | rw [hb10] | (conv => arg 7; rw [hb10]))
        · refine st1 ?_
          have hF := e_some hF
          have hq : some _ = some _ := hF
          cases hq
          exact en1
        · refine st1 ?_
          obtain ⟨_, h, hF⟩ := e_bind hF
          (first | refine o_ia (enc := eTHullSection) (s := 5) h (fun _ => rfl) (by decide) ?_ | refine o_iaT (enc := eTHullSection) (s := 5) h (fun _ => rfl) (by decide) ?_)
          intro _
          refine st1 ?_
          rcases e_bif hF with ⟨hb11, hF⟩ | ⟨hb11, hF⟩ <;> (first | rw [hb11] | (conv => arg 7; rw [hb11]))
          · refine st1 ?_
            have hF := e_some hF
            have hq : some _ = some _ := hF
            cases hq
            exact en1
          · refine st1 ?_
            exact k_loopF (e_some hF) hx1 () [(0, _)] ⟨sT, sS, by rfl, by rfl⟩
      · refine st1 ?_
        have hF := e_some hF
        have hq : some _ = some _ := hF
        cases hq
        exact en1
    · refine st1 ?_
      have hF := e_some hF
      have hq : some _ = some _ := hF
      cases hq
      exact en1


@[reducible] noncomputable def c_thalweglaw02_own : Con := conF F_thalweglaw02_own (fun x => match x with | (a0) => [(V.agg (eTHull a0))]) (fun r => (V.agg (eTHull r)))
theorem h_thalweglaw02_own : Has Tryz.prog 11 c_thalweglaw02_own := by
  refine hasF ctx_nil mix Tryz.func11 rfl (by kernel_rfl) ?_
  rintro a0 r hF
  refine ⟨of_decide_eq_true rfl, ?_⟩
  refine st1 ?_
  refine st_loopF (e_assoc hF) () [(0, _), (1, _), (5, _)] ⟨sT, sS, by rfl, by rfl⟩ ?_
  · rintro n ⟨_, _⟩ _ x hx1 hF
    (conv => arg 7; whnf); (conv => arg 8; whnf); (conv => arg 9; whnf)
    refine st1 ?_
    rcases e_bif hF with ⟨hb4, hF⟩ | ⟨hb4, hF⟩ <;> (first | rw [hb4] | (conv => arg 7; rw [hb4]))
    · refine st1 ?_
      obtain ⟨_, h, hF⟩ := e_bind hF
      (first | refine o_ia (enc := eTHullSection) (s := 5) h (fun _ => rfl) (by decide) ?_ | refine o_iaT (enc := eTHullSection) (s := 5) h (fun _ => rfl) (by decide) ?_)
      intro _
      refine st1 ?_
      obtain ⟨_, h, hF⟩ := e_bind hF
      (first | refine o_app (enc := eTHullRow) (s := 2) h (fun _ => rfl) ?_ | refine o_appT (enc := eTHullRow) (s := 2) h (fun _ => rfl) ?_)
      refine st1 ?_
      obtain ⟨_, h, hF⟩ := e_bind hF
      (first | refine o_app (enc := eTHullHold) (s := 2) h (fun _ => rfl) ?_ | refine o_appT (enc := eTHullHold) (s := 2) h (fun _ => rfl) ?_)
      refine st1 ?_
      obtain ⟨_, h, hF⟩ := e_bind hF
      (first | refine o_app (enc := eTHullSection) (s := 5) h (fun _ => rfl) ?_ | refine o_appT (enc := eTHullSection) (s := 5) h (fun _ => rfl) ?_)
      refine st1 ?_
      exact k_loopF (e_some hF) hx1 () [(0, _), (1, _), (5, _), (6, _)] ⟨sT, sS, by rfl, by rfl⟩
    · refine st1 ?_
      have hF := e_some hF
      have hq : some _ = some _ := hF
      cases hq
      exact en1


@[reducible] noncomputable def c_thalweglaw02_numbers : Con := conF F_thalweglaw02_numbers (fun x => match x with | (a0) => [(V.sl (recs (eI .i64) (a0)) (a0).length)]) (fun r => (V.sl (recs (eI .i64) (r)) (r).length))
theorem h_thalweglaw02_numbers : Has Tryz.prog 12 c_thalweglaw02_numbers := by
  refine hasF ctx_nil mix Tryz.func12 rfl (by kernel_rfl) ?_
  rintro a0 r hF
  refine ⟨of_decide_eq_true rfl, ?_⟩
  refine st1 ?_
  obtain ⟨_, h, hF⟩ := e_bind hF
  (first | refine o_app (enc := (eI .i64)) (s := 1) h (fun _ => rfl) ?_ | refine o_appT (enc := (eI .i64)) (s := 1) h (fun _ => rfl) ?_)
  refine st1 ?_
  have hq : some _ = some _ := hF
  cases hq
  exact en1


@[reducible] noncomputable def c_numbers_Every_int (C : FuncId → Option Con) : Con := conK F_numbers_Every_int (fun x => match x with | (a0, a1, g, caps) => [(V.sl (recs (eI .i64) (a0)) (a0).length), (V.fn g caps)]) (fun x => match x with | (a0, a1, g, caps) => Callable (ext C []) g caps (fun x => match x with | (q0) => [(V.v (.int .i64 (q0)))]) (fun r => (V.v (.bool (r)))) a1) (fun r => (V.v (.bool (r))))
theorem h_numbers_Every_int {C : FuncId → Option Con} (hC : CtxOK Tryz.prog C) : Has Tryz.prog 86 (c_numbers_Every_int C) := by
  refine hasK (ext_nil hC) mix Tryz.func86 rfl (by kernel_rfl) ?_
  rintro ⟨a0, a1, g, caps⟩ r hcl hF
  obtain ⟨hcaps, c, hc, hce, hcall⟩ := id hcl
  refine ⟨of_decide_eq_true rfl, ?_⟩
  refine st1 ?_
  refine st_loopF (e_assoc hF) () [] ⟨sT, sS, by rfl, by rfl⟩ ?_
  · rintro n _ _ x hx1 hF
    (conv => arg 7; whnf); (conv => arg 8; whnf); (conv => arg 9; whnf)
    refine st1 ?_
    rcases e_bif hF with ⟨hb5, hF⟩ | ⟨hb5, hF⟩ <;> (first | rw [hb5] | (conv => arg 7; rw [hb5]))
    · refine st1 ?_
      obtain ⟨_, h, hF⟩ := e_bind hF
      (first | refine o_ia (enc := (eI .i64)) (s := 1) h (fun _ => rfl) (by decide) ?_ | refine o_iaT (enc := (eI .i64)) (s := 1) h (fun _ => rfl) (by decide) ?_)
      intro _
      refine st1 ?_
      obtain ⟨_, h, hF⟩ := e_bind hF
      rw [hc]
      (conv => arg 1; whnf)
      rw [hce]
      (conv => arg 1; whnf)
      (first | refine go_map hcaps rfl ?_ | refine goT_map hcaps rfl ?_)
      (conv => arg 1; whnf)
      obtain ⟨z, hz1, hz2, hz3⟩ := hcall _ _ h
      (first | refine go_exi z ⟨levs_eq hz1.symm, hz2⟩ ?_ | refine goT_exi z ⟨levs_eq hz1.symm, hz2⟩ ?_)
      rw [hz3]
      (conv => arg 1; whnf)
      refine st1 ?_
      rcases e_bif hF with ⟨hb6, hF⟩ | ⟨hb6, hF⟩ <;> (first | rw [hb6] | (conv => arg 7; rw [hb6]))
      · refine st1 ?_
        have hF := e_some hF
        have hq : some _ = some _ := hF
        cases hq
        exact en1
      · refine st1 ?_
        exact k_loopF (e_some hF) hx1 () [] ⟨sT, sS, by rfl, by rfl⟩
    · refine st1 ?_
      have hF := e_some hF
      have hq : some _ = some _ := hF
      cases hq
      exact en1


@[reducible] noncomputable def c_numbers_Within_1 : Con := conF F_numbers_Within_1 (fun x => match x with | (a0, c0, c1) => [(V.v (.int .i64 (a0))), (V.fptr [(V.v (.int .i64 (c0)))]), (V.fptr [(V.v (.int .i64 (c1)))])]) (fun r => (V.v (.bool (r))))
theorem h_numbers_Within_1 : Has Tryz.prog 87 c_numbers_Within_1 := by
  refine hasF ctx_nil mix Tryz.func87 rfl (by kernel_rfl) ?_
  rintro ⟨a0, c0, c1⟩ r hF
  refine ⟨of_decide_eq_true rfl, ?_⟩
  refine st1 ?_
  rcases e_bif hF with ⟨hb1, hF⟩ | ⟨hb1, hF⟩ <;> (first | rw [hb1] | (conv => arg 7; rw [hb1]))
  · refine st1 ?_
    have hq : some _ = some _ := hF
    cases hq
    exact en1
  · refine st1 ?_
    have hq : some _ = some _ := hF
    cases hq
    exact en1


@[reducible] noncomputable def c_numbers_Within : Con := conF F_numbers_Within (fun x => match x with | (a0, a1, a2) => [(V.v (.int .i64 (a0))), (V.v (.int .i64 (a1))), (V.sl (recs (eI .i64) (a2)) (a2).length)]) (fun r => (V.v (.bool (r))))
theorem h_numbers_Within : Has Tryz.prog 46 c_numbers_Within := by
  refine hasF (ctx_cons (h_numbers_Every_int (ctx_cons h_numbers_Within_1 ctx_nil)) ctx_nil) mix Tryz.func46 rfl (by kernel_rfl) ?_
  rintro ⟨a0, a1, a2⟩ r hF
  refine ⟨of_decide_eq_true rfl, ?_⟩
  refine st1 ?_
  obtain ⟨_, h, hF⟩ := e_bind hF
  (first | refine g_hcall h lv1 (callable_conF rfl rfl (fun _ => rfl)) ?_ | refine g_hcallT h lv1 (callable_conF rfl rfl (fun _ => rfl)) ?_)
  (conv => arg 1; whnf)
  refine st1 ?_
  have hq : some _ = some _ := hF
  cases hq
  exact en1


@[reducible] noncomputable def c_numbers_Every_HullSection (C : FuncId → Option Con) : Con := conK F_numbers_Every_HullSection (fun x => match x with | (a0, a1, g, caps) => [(V.sl (recs eTHullSection (a0)) (a0).length), (V.fn g caps)]) (fun x => match x with | (a0, a1, g, caps) => Callable (ext C []) g caps (fun x => match x with | (q0) => [(V.agg (eTHullSection q0))]) (fun r => (V.v (.bool (r)))) a1) (fun r => (V.v (.bool (r))))
theorem h_numbers_Every_HullSection {C : FuncId → Option Con} (hC : CtxOK Tryz.prog C) : Has Tryz.prog 47 (c_numbers_Every_HullSection C) := by
  refine hasK (ext_nil hC) mix Tryz.func47 rfl (by kernel_rfl) ?_
  rintro ⟨a0, a1, g, caps⟩ r hcl hF
  obtain ⟨hcaps, c, hc, hce, hcall⟩ := id hcl
  refine ⟨of_decide_eq_true rfl, ?_⟩
  refine st1 ?_
  refine st_loopF (e_assoc hF) () [] ⟨sT, sS, by rfl, by rfl⟩ ?_
  · rintro n _ _ x hx1 hF
    (conv => arg 7; whnf); (conv => arg 8; whnf); (conv => arg 9; whnf)
    refine st1 ?_
    rcases e_bif hF with ⟨hb5, hF⟩ | ⟨hb5, hF⟩ <;> (first | rw [hb5] | (conv => arg 7; rw [hb5]))
    · refine st1 ?_
      obtain ⟨_, h, hF⟩ := e_bind hF
      (first | refine o_ia (enc := eTHullSection) (s := 5) h (fun _ => rfl) (by decide) ?_ | refine o_iaT (enc := eTHullSection) (s := 5) h (fun _ => rfl) (by decide) ?_)
      intro _
      refine st1 ?_
      obtain ⟨_, h, hF⟩ := e_bind hF
      rw [hc]
      (conv => arg 1; whnf)
      rw [hce]
      (conv => arg 1; whnf)
      (first | refine go_map hcaps rfl ?_ | refine goT_map hcaps rfl ?_)
      (conv => arg 1; whnf)
      obtain ⟨z, hz1, hz2, hz3⟩ := hcall _ _ h
      (first | refine go_exi z ⟨levs_eq hz1.symm, hz2⟩ ?_ | refine goT_exi z ⟨levs_eq hz1.symm, hz2⟩ ?_)
      rw [hz3]
      (conv => arg 1; whnf)
      refine st1 ?_
      rcases e_bif hF with ⟨hb6, hF⟩ | ⟨hb6, hF⟩ <;> (first | rw [hb6] | (conv => arg 7; rw [hb6]))
      · refine st1 ?_
        have hF := e_some hF
        have hq : some _ = some _ := hF
        cases hq
        exact en1
      · refine st1 ?_
        exact k_loopF (e_some hF) hx1 () [] ⟨sT, sS, by rfl, by rfl⟩
    · refine st1 ?_
      have hF := e_some hF
      have hq : some _ = some _ := hF
      cases hq
      exact en1


@[reducible] noncomputable def c_hull_validCurve : Con := conF F_hull_validCurve (fun x => match x with | (a0) => [(V.sl (recs eTHullRow (a0)) (a0).length)]) (fun r => (V.v (.bool (r))))
theorem fl_hull_validCurve_136 : flatOf Tryz.prog 9 136 = some [true, true] := by kernel_rfl
theorem eg_hull_validCurve_136 : Tryz.prog.eqGuardType Tryz.prog.depth 136 = false := by kernel_rfl
theorem ag_hull_validCurve_136 : aggOf Tryz.prog 136 = some true := by kernel_rfl
theorem h_hull_validCurve : Has Tryz.prog 88 c_hull_validCurve := by
  refine hasF (ctx_cons h_numbers_Within ctx_nil) mix Tryz.func88 rfl (by kernel_rfl) ?_
  rintro a0 r hF
  refine ⟨of_decide_eq_true rfl, ?_⟩
  refine st1 ?_
  obtain ⟨_, h, hF⟩ := e_bind hF
  (first | refine g_call h lv1 ?_ | refine g_callT h lv1 ?_)
  (conv => arg 1; whnf)
  refine st1 ?_
  rcases e_bif hF with ⟨hb1, hF⟩ | ⟨hb1, hF⟩ <;> (first | rw [hb1] | (conv => arg 7; rw [hb1]))
  · refine st1 ?_
    have hq : some _ = some _ := hF
    cases hq
    exact en1
  · refine st1 ?_
    obtain ⟨_, h, hF⟩ := e_bind hF
    (first | refine o_ia (enc := eTHullRow) (s := 2) h (fun _ => rfl) (by decide) ?_ | refine o_iaT (enc := eTHullRow) (s := 2) h (fun _ => rfl) (by decide) ?_)
    intro _
    refine st1 ?_
    rw [fl_hull_validCurve_136, eg_hull_validCurve_136, ag_hull_validCurve_136]
    (conv => arg 1; whnf)
    refine st1 ?_
    rcases e_bif hF with ⟨hb2, hF⟩ | ⟨hb2, hF⟩ <;> (first | rw [hb2] | (conv => arg 7; rw [hb2]))
    · refine st1 ?_
      have hq : some _ = some _ := hF
      cases hq
      exact en1
    · refine st1 ?_
      refine st_loopF (e_assoc hF) () [] ⟨sT, sS, by rfl, by rfl⟩ ?_
      · rintro n _ _ x hx1 hF
        (conv => arg 7; whnf); (conv => arg 8; whnf); (conv => arg 9; whnf)
        refine st1 ?_
        rcases e_bif hF with ⟨hb9, hF⟩ | ⟨hb9, hF⟩ <;> (first | rw [hb9] | (conv => arg 7; rw [hb9]))
        · refine st1 ?_
          obtain ⟨_, h, hF⟩ := e_bind hF
          (first | refine o_ia (enc := eTHullRow) (s := 2) h (fun _ => rfl) (by decide) ?_ | refine o_iaT (enc := eTHullRow) (s := 2) h (fun _ => rfl) (by decide) ?_)
          intro _
          refine st1 ?_
          obtain ⟨_, h, hF⟩ := e_bind hF
          (first | refine o_ia (enc := eTHullRow) (s := 2) h (fun _ => rfl) (by decide) ?_ | refine o_iaT (enc := eTHullRow) (s := 2) h (fun _ => rfl) (by decide) ?_)
          intro _
          refine st1 ?_
          rcases e_bif hF with ⟨hb10, hF⟩ | ⟨hb10, hF⟩ <;> (first | rw [hb10] | (conv => arg 7; rw [hb10]))
          · refine st1 ?_
            have hF := e_some hF
            have hq : some _ = some _ := hF
            cases hq
            exact en1
          · refine st1 ?_
            obtain ⟨_, h, hF⟩ := e_bind hF
            (first | refine o_ia (enc := eTHullRow) (s := 2) h (fun _ => rfl) (by decide) ?_ | refine o_iaT (enc := eTHullRow) (s := 2) h (fun _ => rfl) (by decide) ?_)
            intro _
            refine st1 ?_
            obtain ⟨_, h, hF⟩ := e_bind hF
            (first | refine o_ia (enc := eTHullRow) (s := 2) h (fun _ => rfl) (by decide) ?_ | refine o_iaT (enc := eTHullRow) (s := 2) h (fun _ => rfl) (by decide) ?_)
            intro _
            refine st1 ?_
            rcases e_bif hF with ⟨hb11, hF⟩ | ⟨hb11, hF⟩ <;> (first | rw [hb11] | (conv => arg 7; rw [hb11]))
            · refine st1 ?_
              have hF := e_some hF
              have hq : some _ = some _ := hF
              cases hq
              exact en1
            · refine st1 ?_
              exact k_loopF (e_some hF) hx1 () [] ⟨sT, sS, by rfl, by rfl⟩
        · refine st1 ?_
          have hF := e_some hF
          obtain ⟨_, h, hF⟩ := e_bind hF
          (first | refine o_ia (enc := eTHullRow) (s := 2) h (fun _ => rfl) (by decide) ?_ | refine o_iaT (enc := eTHullRow) (s := 2) h (fun _ => rfl) (by decide) ?_)
          intro _
          refine st1 ?_
          rcases e_bif hF with ⟨hb12, hF⟩ | ⟨hb12, hF⟩ <;> (first | rw [hb12] | (conv => arg 7; rw [hb12]))
          · refine st1 ?_
            have hq : some _ = some _ := hF
            cases hq
            exact en1
          · refine st1 ?_
            have hq : some _ = some _ := hF
            cases hq
            exact en1


@[reducible] noncomputable def c_numbers_Every_HullHold (C : FuncId → Option Con) : Con := conK F_numbers_Every_HullHold (fun x => match x with | (a0, a1, g, caps) => [(V.sl (recs eTHullHold (a0)) (a0).length), (V.fn g caps)]) (fun x => match x with | (a0, a1, g, caps) => Callable (ext C []) g caps (fun x => match x with | (q0) => [(V.agg (eTHullHold q0))]) (fun r => (V.v (.bool (r)))) a1) (fun r => (V.v (.bool (r))))
theorem h_numbers_Every_HullHold {C : FuncId → Option Con} (hC : CtxOK Tryz.prog C) : Has Tryz.prog 89 (c_numbers_Every_HullHold C) := by
  refine hasK (ext_nil hC) mix Tryz.func89 rfl (by kernel_rfl) ?_
  rintro ⟨a0, a1, g, caps⟩ r hcl hF
  obtain ⟨hcaps, c, hc, hce, hcall⟩ := id hcl
  refine ⟨of_decide_eq_true rfl, ?_⟩
  refine st1 ?_
  refine st_loopF (e_assoc hF) () [] ⟨sT, sS, by rfl, by rfl⟩ ?_
  · rintro n _ _ x hx1 hF
    (conv => arg 7; whnf); (conv => arg 8; whnf); (conv => arg 9; whnf)
    refine st1 ?_
    rcases e_bif hF with ⟨hb5, hF⟩ | ⟨hb5, hF⟩ <;> (first | rw [hb5] | (conv => arg 7; rw [hb5]))
    · refine st1 ?_
      obtain ⟨_, h, hF⟩ := e_bind hF
      (first | refine o_ia (enc := eTHullHold) (s := 2) h (fun _ => rfl) (by decide) ?_ | refine o_iaT (enc := eTHullHold) (s := 2) h (fun _ => rfl) (by decide) ?_)
      intro _
      refine st1 ?_
      obtain ⟨_, h, hF⟩ := e_bind hF
      rw [hc]
      (conv => arg 1; whnf)
      rw [hce]
      (conv => arg 1; whnf)
      (first | refine go_map hcaps rfl ?_ | refine goT_map hcaps rfl ?_)
      (conv => arg 1; whnf)
      obtain ⟨z, hz1, hz2, hz3⟩ := hcall _ _ h
      (first | refine go_exi z ⟨levs_eq hz1.symm, hz2⟩ ?_ | refine goT_exi z ⟨levs_eq hz1.symm, hz2⟩ ?_)
      rw [hz3]
      (conv => arg 1; whnf)
      refine st1 ?_
      rcases e_bif hF with ⟨hb6, hF⟩ | ⟨hb6, hF⟩ <;> (first | rw [hb6] | (conv => arg 7; rw [hb6]))
      · refine st1 ?_
        have hF := e_some hF
        have hq : some _ = some _ := hF
        cases hq
        exact en1
      · refine st1 ?_
        exact k_loopF (e_some hF) hx1 () [] ⟨sT, sS, by rfl, by rfl⟩
    · refine st1 ?_
      have hF := e_some hF
      have hq : some _ = some _ := hF
      cases hq
      exact en1


@[reducible] noncomputable def c_hull_validSection_1 : Con := conF F_hull_validSection_1 (fun x => match x with | (a0, c0) => [(V.agg (eTHullHold a0)), (V.fptr [(V.v (.int .i64 (c0.Length))), (V.v (.int .i64 (c0.Light))), (V.v (.int .i64 (c0.Trim))), (V.sl (recs eTHullRow (c0.Curve)) (c0.Curve).length), (V.sl (recs eTHullHold (c0.Holds)) (c0.Holds).length)])]) (fun r => (V.v (.bool (r))))
theorem h_hull_validSection_1 : Has Tryz.prog 90 c_hull_validSection_1 := by
  refine hasF (ctx_cons h_numbers_Within ctx_nil) mix Tryz.func90 rfl (by kernel_rfl) ?_
  rintro ⟨a0, c0⟩ r hF
  refine ⟨of_decide_eq_true rfl, ?_⟩
  refine st1 ?_
  obtain ⟨_, h, hF⟩ := e_bind hF
  (first | refine g_call h lv1 ?_ | refine g_callT h lv1 ?_)
  (conv => arg 1; whnf)
  refine st1 ?_
  rcases e_bif hF with ⟨hb1, hF⟩ | ⟨hb1, hF⟩ <;> (first | rw [hb1] | (conv => arg 7; rw [hb1]))
  · refine st1 ?_
    obtain ⟨_, h, hF⟩ := e_bind hF
    (first | refine g_call h lv1 ?_ | refine g_callT h lv1 ?_)
    (conv => arg 1; whnf)
    refine st1 ?_
    have hq : some _ = some _ := hF
    cases hq
    exact en1
  · refine st1 ?_
    have hq : some _ = some _ := hF
    cases hq
    exact en1


@[reducible] noncomputable def c_hull_validSection : Con := conF F_hull_validSection (fun x => match x with | (a0) => [(V.agg (eTHullSection a0))]) (fun r => (V.v (.bool (r))))
theorem h_hull_validSection : Has Tryz.prog 48 c_hull_validSection := by
  refine hasF (ctx_cons (h_numbers_Every_HullHold (ctx_cons h_hull_validSection_1 ctx_nil)) (ctx_cons h_hull_validCurve (ctx_cons h_numbers_Within ctx_nil))) mix Tryz.func48 rfl (by kernel_rfl) ?_
  rintro a0 r hF
  refine ⟨of_decide_eq_true rfl, ?_⟩
  refine st1 ?_
  obtain ⟨_, h, hF⟩ := e_bind hF
  (first | refine g_call h lv1 ?_ | refine g_callT h lv1 ?_)
  (conv => arg 1; whnf)
  refine st1 ?_
  rcases e_bif hF with ⟨hb1, hF⟩ | ⟨hb1, hF⟩ <;> (first | rw [hb1] | (conv => arg 7; rw [hb1]))
  · refine st1 ?_
    obtain ⟨_, h, hF⟩ := e_bind hF
    (first | refine g_call h lv1 ?_ | refine g_callT h lv1 ?_)
    (conv => arg 1; whnf)
    refine st1 ?_
    rcases e_bif hF with ⟨hb2, hF⟩ | ⟨hb2, hF⟩ <;> (first | rw [hb2] | (conv => arg 7; rw [hb2]))
    · refine st1 ?_
      obtain ⟨_, h, hF⟩ := e_bind hF
      (first | refine g_call h lv1 ?_ | refine g_callT h lv1 ?_)
      (conv => arg 1; whnf)
      refine st1 ?_
      rcases e_bif hF with ⟨hb3, hF⟩ | ⟨hb3, hF⟩ <;> (first | rw [hb3] | (conv => arg 7; rw [hb3]))
      · refine st1 ?_
        obtain ⟨_, h, hF⟩ := e_bind hF
        (first | refine g_call h lv1 ?_ | refine g_callT h lv1 ?_)
        (conv => arg 1; whnf)
        refine st1 ?_
        rcases e_bif hF with ⟨hb4, hF⟩ | ⟨hb4, hF⟩ <;> (first | rw [hb4] | (conv => arg 7; rw [hb4]))
        · refine st1 ?_
          obtain ⟨_, h, hF⟩ := e_bind hF
          (first | refine g_hcall h lv1 (callable_conF rfl rfl (fun _ => rfl)) ?_ | refine g_hcallT h lv1 (callable_conF rfl rfl (fun _ => rfl)) ?_)
          (conv => arg 1; whnf)
          refine st1 ?_
          have hq : some _ = some _ := hF
          cases hq
          exact en1
        · refine st1 ?_
          have hq : some _ = some _ := hF
          cases hq
          exact en1
      · refine st1 ?_
        have hq : some _ = some _ := hF
        cases hq
        exact en1
    · refine st1 ?_
      have hq : some _ = some _ := hF
      cases hq
      exact en1
  · refine st1 ?_
    have hq : some _ = some _ := hF
    cases hq
    exact en1


@[reducible] noncomputable def c_hull_length : Con := conF F_hull_length (fun x => match x with | (a0) => [(V.sl (recs eTHullSection (a0)) (a0).length)]) (fun r => (V.v (.int .i64 (r))))
theorem h_hull_length : Has Tryz.prog 49 c_hull_length := by
  refine hasF ctx_nil mix Tryz.func49 rfl (by kernel_rfl) ?_
  rintro a0 r hF
  refine ⟨of_decide_eq_true rfl, ?_⟩
  refine st1 ?_
  refine st_loopF (e_assoc hF) () [] ⟨sT, sS, by rfl, by rfl⟩ ?_
  · rintro n ⟨_, _⟩ _ x hx1 hF
    (conv => arg 7; whnf); (conv => arg 8; whnf); (conv => arg 9; whnf)
    refine st1 ?_
    rcases e_bif hF with ⟨hb3, hF⟩ | ⟨hb3, hF⟩ <;> (first | rw [hb3] | (conv => arg 7; rw [hb3]))
    · refine st1 ?_
      obtain ⟨_, h, hF⟩ := e_bind hF
      (first | refine o_ia (enc := eTHullSection) (s := 5) h (fun _ => rfl) (by decide) ?_ | refine o_iaT (enc := eTHullSection) (s := 5) h (fun _ => rfl) (by decide) ?_)
      intro _
      refine st1 ?_
      exact k_loopF (e_some hF) hx1 () [] ⟨sT, sS, by rfl, by rfl⟩
    · refine st1 ?_
      have hF := e_some hF
      have hq : some _ = some _ := hF
      cases hq
      exact en1


@[reducible] noncomputable def c_hull_holds : Con := conF F_hull_holds (fun x => match x with | (a0) => [(V.sl (recs eTHullSection (a0)) (a0).length)]) (fun r => (V.v (.int .i64 (r))))
theorem h_hull_holds : Has Tryz.prog 50 c_hull_holds := by
  refine hasF ctx_nil mix Tryz.func50 rfl (by kernel_rfl) ?_
  rintro a0 r hF
  refine ⟨of_decide_eq_true rfl, ?_⟩
  refine st1 ?_
  refine st_loopF (e_assoc hF) () [] ⟨sT, sS, by rfl, by rfl⟩ ?_
  · rintro n ⟨_, _⟩ _ x hx1 hF
    (conv => arg 7; whnf); (conv => arg 8; whnf); (conv => arg 9; whnf)
    refine st1 ?_
    rcases e_bif hF with ⟨hb3, hF⟩ | ⟨hb3, hF⟩ <;> (first | rw [hb3] | (conv => arg 7; rw [hb3]))
    · refine st1 ?_
      obtain ⟨_, h, hF⟩ := e_bind hF
      (first | refine o_ia (enc := eTHullSection) (s := 5) h (fun _ => rfl) (by decide) ?_ | refine o_iaT (enc := eTHullSection) (s := 5) h (fun _ => rfl) (by decide) ?_)
      intro _
      refine st1 ?_
      exact k_loopF (e_some hF) hx1 () [] ⟨sT, sS, by rfl, by rfl⟩
    · refine st1 ?_
      have hF := e_some hF
      have hq : some _ = some _ := hF
      cases hq
      exact en1


@[reducible] noncomputable def c_hull_Check : Con := conF F_hull_Check (fun x => match x with | (a0) => [(V.agg (eTHull a0))]) (fun r => (V.v (.int .i64 (r))))
theorem h_hull_Check : Has Tryz.prog 13 c_hull_Check := by
  refine hasF (ctx_cons (h_numbers_Every_HullSection (ctx_cons h_hull_validSection ctx_nil)) (ctx_cons h_hull_holds (ctx_cons h_hull_length (ctx_cons h_numbers_Within ctx_nil)))) mix Tryz.func13 rfl (by kernel_rfl) ?_
  rintro a0 r hF
  refine ⟨of_decide_eq_true rfl, ?_⟩
  refine st1 ?_
  obtain ⟨_, h, hF⟩ := e_bind hF
  (first | refine g_call h lv1 ?_ | refine g_callT h lv1 ?_)
  (conv => arg 1; whnf)
  refine st1 ?_
  rcases e_bif hF with ⟨hb1, hF⟩ | ⟨hb1, hF⟩ <;> (first | rw [hb1] | (conv => arg 7; rw [hb1]))
  · refine st1 ?_
    have hq : some _ = some _ := hF
    cases hq
    exact en1
  · refine st1 ?_
    obtain ⟨_, h, hF⟩ := e_bind hF
    (first | refine g_call h lv1 ?_ | refine g_callT h lv1 ?_)
    (conv => arg 1; whnf)
    refine st1 ?_
    rcases e_bif hF with ⟨hb2, hF⟩ | ⟨hb2, hF⟩ <;> (first | rw [hb2] | (conv => arg 7; rw [hb2]))
    · refine st1 ?_
      have hq : some _ = some _ := hF
      cases hq
      exact en1
    · refine st1 ?_
      obtain ⟨_, h, hF⟩ := e_bind hF
      (first | refine g_hcall h lv1 (callable_conF rfl rfl (fun _ => rfl)) ?_ | refine g_hcallT h lv1 (callable_conF rfl rfl (fun _ => rfl)) ?_)
      (conv => arg 1; whnf)
      refine st1 ?_
      rcases e_bif hF with ⟨hb3, hF⟩ | ⟨hb3, hF⟩ <;> (first | rw [hb3] | (conv => arg 7; rw [hb3]))
      · refine st1 ?_
        have hq : some _ = some _ := hF
        cases hq
        exact en1
      · refine st1 ?_
        obtain ⟨_, h, hF⟩ := e_bind hF
        (first | refine g_call h lv1 ?_ | refine g_callT h lv1 ?_)
        (conv => arg 1; whnf)
        refine st1 ?_
        rcases e_bif hF with ⟨hb4, hF⟩ | ⟨hb4, hF⟩ <;> (first | rw [hb4] | (conv => arg 7; rw [hb4]))
        · refine st1 ?_
          have hq : some _ = some _ := hF
          cases hq
          exact en1
        · refine st1 ?_
          obtain ⟨_, h, hF⟩ := e_bind hF
          (first | refine g_call h lv1 ?_ | refine g_callT h lv1 ?_)
          (conv => arg 1; whnf)
          refine st1 ?_
          rcases e_bif hF with ⟨hb5, hF⟩ | ⟨hb5, hF⟩ <;> (first | rw [hb5] | (conv => arg 7; rw [hb5]))
          · refine st1 ?_
            have hq : some _ = some _ := hF
            cases hq
            exact en1
          · refine st1 ?_
            have hq : some _ = some _ := hF
            cases hq
            exact en1


@[reducible] noncomputable def c_hull_launch : Con := conF F_hull_launch (fun x => match x with | (a0) => [(V.agg (eTHull a0))]) (fun r => V.tup [(V.agg (eThull_ship r.1)), (V.v (.int .i64 (r.2)))])
theorem h_hull_launch : Has Tryz.prog 51 c_hull_launch := by
  refine hasF (ctx_cons h_hull_length (ctx_cons h_hull_Check ctx_nil)) mix Tryz.func51 rfl (by kernel_rfl) ?_
  rintro a0 r hF
  refine ⟨of_decide_eq_true rfl, ?_⟩
  refine st1 ?_
  obtain ⟨_, h, hF⟩ := e_bind hF
  (first | refine g_call h lv1 ?_ | refine g_callT h lv1 ?_)
  (conv => arg 1; whnf)
  refine st1 ?_
  rcases e_bif hF with ⟨hb1, hF⟩ | ⟨hb1, hF⟩ <;> (first | rw [hb1] | (conv => arg 7; rw [hb1]))
  · refine st1 ?_
    have hq : some _ = some _ := hF
    cases hq
    exact en1
  · refine st1 ?_
    obtain ⟨_, h, hF⟩ := e_bind hF
    (first | refine g_call h lv1 ?_ | refine g_callT h lv1 ?_)
    (conv => arg 1; whnf)
    refine st1 ?_
    refine st_loopF (e_assoc hF) () [(1, _), (10, _)] ⟨sT, sS, by rfl, by rfl⟩ ?_
    · rintro n ⟨_, _, _, _, _, _, _⟩ _ x hx1 hF
      (conv => arg 7; whnf); (conv => arg 8; whnf); (conv => arg 9; whnf)
      refine st1 ?_
      rcases e_bif hF with ⟨hb15, hF⟩ | ⟨hb15, hF⟩ <;> (first | rw [hb15] | (conv => arg 7; rw [hb15]))
      · refine st1 ?_
        obtain ⟨_, h, hF⟩ := e_bind hF
        (first | refine o_ia (enc := eTHullSection) (s := 5) h (fun _ => rfl) (by decide) ?_ | refine o_iaT (enc := eTHullSection) (s := 5) h (fun _ => rfl) (by decide) ?_)
        intro _
        refine st1 ?_
        obtain ⟨_, h, hF⟩ := e_bind hF
        (first | refine o_ia (enc := eTHullRow) (s := 2) h (fun _ => rfl) (by decide) ?_ | refine o_iaT (enc := eTHullRow) (s := 2) h (fun _ => rfl) (by decide) ?_)
        intro _
        refine st1 ?_
        refine st_loopF (e_assoc hF) () [(1, _), (10, _), (11, _), (15, _)] ⟨sT, sS, by rfl, by rfl⟩ ?_
        · rintro n ⟨_, _⟩ _ x hx2 hF
          (conv => arg 7; whnf); (conv => arg 8; whnf); (conv => arg 9; whnf)
          refine st1 ?_
          rcases e_bif hF with ⟨hb18, hF⟩ | ⟨hb18, hF⟩ <;> (first | rw [hb18] | (conv => arg 7; rw [hb18]))
          · refine st1 ?_
            obtain ⟨_, h, hF⟩ := e_bind hF
            (first | refine o_ia (enc := eTHullHold) (s := 2) h (fun _ => rfl) (by decide) ?_ | refine o_iaT (enc := eTHullHold) (s := 2) h (fun _ => rfl) (by decide) ?_)
            intro _
            refine st1 ?_
            obtain ⟨_, h, hF⟩ := e_bind hF
            (first | refine o_app (enc := eThull_hold) (s := 3) h (fun _ => rfl) ?_ | refine o_appT (enc := eThull_hold) (s := 3) h (fun _ => rfl) ?_)
            refine st1 ?_
            exact k_loopF (e_some hF) hx2 () [(1, _), (10, _), (11, _), (15, _)] ⟨sT, sS, by rfl, by rfl⟩
          · refine st1 ?_
            have hF := e_some hF
            exact k_loopF (e_some hF) hx1 () [(1, _), (10, _), (11, _)] ⟨sT, sS, by rfl, by rfl⟩
      · refine st1 ?_
        have hF := e_some hF
        have hq : some _ = some _ := hF
        cases hq
        exact en1


@[reducible] noncomputable def c_slices_IndexFunc_L_HullRow_HullRow (C : FuncId → Option Con) : Con := conK F_slices_IndexFunc_L_HullRow_HullRow (fun x => match x with | (a0, a1, g, caps) => [(V.sl (recs eTHullRow (a0)) (a0).length), (V.fn g caps)]) (fun x => match x with | (a0, a1, g, caps) => Callable (ext C []) g caps (fun x => match x with | (q0) => [(V.agg (eTHullRow q0))]) (fun r => (V.v (.bool (r)))) a1) (fun r => (V.v (.int .i64 (r))))
theorem h_slices_IndexFunc_L_HullRow_HullRow {C : FuncId → Option Con} (hC : CtxOK Tryz.prog C) : Has Tryz.prog 116 (c_slices_IndexFunc_L_HullRow_HullRow C) := by
  refine hasK (ext_nil hC) mix Tryz.func116 rfl (by kernel_rfl) ?_
  rintro ⟨a0, a1, g, caps⟩ r hcl hF
  obtain ⟨hcaps, c, hc, hce, hcall⟩ := id hcl
  refine ⟨of_decide_eq_true rfl, ?_⟩
  refine st1 ?_
  refine st_loopF (e_assoc hF) () [] ⟨sT, sS, by rfl, by rfl⟩ ?_
  · rintro n _ _ x hx1 hF
    (conv => arg 7; whnf); (conv => arg 8; whnf); (conv => arg 9; whnf)
    refine st1 ?_
    rcases e_bif hF with ⟨hb5, hF⟩ | ⟨hb5, hF⟩ <;> (first | rw [hb5] | (conv => arg 7; rw [hb5]))
    · refine st1 ?_
      obtain ⟨_, h, hF⟩ := e_bind hF
      (first | refine o_ia (enc := eTHullRow) (s := 2) h (fun _ => rfl) (by decide) ?_ | refine o_iaT (enc := eTHullRow) (s := 2) h (fun _ => rfl) (by decide) ?_)
      intro _
      refine st1 ?_
      obtain ⟨_, h, hF⟩ := e_bind hF
      rw [hc]
      (conv => arg 1; whnf)
      rw [hce]
      (conv => arg 1; whnf)
      (first | refine go_map hcaps rfl ?_ | refine goT_map hcaps rfl ?_)
      (conv => arg 1; whnf)
      obtain ⟨z, hz1, hz2, hz3⟩ := hcall _ _ h
      (first | refine go_exi z ⟨levs_eq hz1.symm, hz2⟩ ?_ | refine goT_exi z ⟨levs_eq hz1.symm, hz2⟩ ?_)
      rw [hz3]
      (conv => arg 1; whnf)
      refine st1 ?_
      rcases e_bif hF with ⟨hb6, hF⟩ | ⟨hb6, hF⟩ <;> (first | rw [hb6] | (conv => arg 7; rw [hb6]))
      · refine st1 ?_
        have hF := e_some hF
        have hq : some _ = some _ := hF
        cases hq
        exact en1
      · refine st1 ?_
        exact k_loopF (e_some hF) hx1 () [] ⟨sT, sS, by rfl, by rfl⟩
    · refine st1 ?_
      have hF := e_some hF
      have hq : some _ = some _ := hF
      cases hq
      exact en1


@[reducible] noncomputable def c_hull_curveAt_1 : Con := conF F_hull_curveAt_1 (fun x => match x with | (a0, c0) => [(V.agg (eTHullRow a0)), (V.fptr [(V.v (.int .i64 (c0)))])]) (fun r => (V.v (.bool (r))))
theorem h_hull_curveAt_1 : Has Tryz.prog 117 c_hull_curveAt_1 := by
  refine hasF ctx_nil mix Tryz.func117 rfl (by kernel_rfl) ?_
  rintro ⟨a0, c0⟩ r hF
  refine ⟨of_decide_eq_true rfl, ?_⟩
  refine st1 ?_
  have hq : some _ = some _ := hF
  cases hq
  exact en1


@[reducible] noncomputable def c_hull_curveAt : Con := conF F_hull_curveAt (fun x => match x with | (a0, a1) => [(V.sl (recs eTHullRow (a0)) (a0).length), (V.v (.int .i64 (a1)))]) (fun r => (V.v (.int .i64 (r))))
theorem h_hull_curveAt : Has Tryz.prog 91 c_hull_curveAt := by
  refine hasF (ctx_cons (h_slices_IndexFunc_L_HullRow_HullRow (ctx_cons h_hull_curveAt_1 ctx_nil)) ctx_nil) mix Tryz.func91 rfl (by kernel_rfl) ?_
  rintro ⟨a0, a1⟩ r hF
  refine ⟨of_decide_eq_true rfl, ?_⟩
  refine st1 ?_
  obtain ⟨_, h, hF⟩ := e_bind hF
  (first | refine o_slc (enc := eTHullRow) (s := 2) h (fun _ => rfl) ?_ | refine o_slcT (enc := eTHullRow) (s := 2) h (fun _ => rfl) ?_)
  refine st1 ?_
  obtain ⟨_, h, hF⟩ := e_bind hF
  (first | refine g_hcall h lv1 (callable_conF rfl rfl (fun _ => rfl)) ?_ | refine g_hcallT h lv1 (callable_conF rfl rfl (fun _ => rfl)) ?_)
  (conv => arg 1; whnf)
  refine st1 ?_
  obtain ⟨_, h, hF⟩ := e_bind hF
  (first | refine o_ia (enc := eTHullRow) (s := 2) h (fun _ => rfl) (by decide) ?_ | refine o_iaT (enc := eTHullRow) (s := 2) h (fun _ => rfl) (by decide) ?_)
  intro _
  refine st1 ?_
  obtain ⟨_, h, hF⟩ := e_bind hF
  (first | refine o_ia (enc := eTHullRow) (s := 2) h (fun _ => rfl) (by decide) ?_ | refine o_iaT (enc := eTHullRow) (s := 2) h (fun _ => rfl) (by decide) ?_)
  intro _
  refine st1 ?_
  obtain ⟨_, h, hF⟩ := e_bind hF
  (first | refine go_req (nz_ne h) ?_ | refine goT_req (nz_ne h) ?_)
  (conv => arg 1; whnf)
  refine st1 ?_
  have hq : some _ = some _ := hF
  cases hq
  exact en1


@[reducible] noncomputable def c_hull_ship_volume : Con := conF F_hull_ship_volume (fun x => match x with | (a0, a1) => [(V.agg (eThull_ship a0)), (V.v (.int .i64 (a1)))]) (fun r => (V.v (.int .i64 (r))))
theorem h_hull_ship_volume : Has Tryz.prog 52 c_hull_ship_volume := by
  refine hasF (ctx_cons h_hull_curveAt ctx_nil) mix Tryz.func52 rfl (by kernel_rfl) ?_
  rintro ⟨a0, a1⟩ r hF
  refine ⟨of_decide_eq_true rfl, ?_⟩
  refine st1 ?_
  refine st_loopF (e_assoc hF) () [] ⟨sT, sS, by rfl, by rfl⟩ ?_
  · rintro n ⟨_, _⟩ _ x hx1 hF
    (conv => arg 7; whnf); (conv => arg 8; whnf); (conv => arg 9; whnf)
    refine st1 ?_
    rcases e_bif hF with ⟨hb3, hF⟩ | ⟨hb3, hF⟩ <;> (first | rw [hb3] | (conv => arg 7; rw [hb3]))
    · refine st1 ?_
      obtain ⟨_, h, hF⟩ := e_bind hF
      (first | refine o_ia (enc := eTHullSection) (s := 5) h (fun _ => rfl) (by decide) ?_ | refine o_iaT (enc := eTHullSection) (s := 5) h (fun _ => rfl) (by decide) ?_)
      intro _
      refine st1 ?_
      obtain ⟨_, h, hF⟩ := e_bind hF
      (first | refine g_call h lv1 ?_ | refine g_callT h lv1 ?_)
      (conv => arg 1; whnf)
      refine st1 ?_
      exact k_loopF (e_some hF) hx1 () [] ⟨sT, sS, by rfl, by rfl⟩
    · refine st1 ?_
      have hF := e_some hF
      have hq : some _ = some _ := hF
      cases hq
      exact en1


@[reducible] noncomputable def c_hull_Volume : Con := conF F_hull_Volume (fun x => match x with | (a0, a1) => [(V.agg (eTHull a0)), (V.v (.int .i64 (a1)))]) (fun r => V.tup [(V.v (.int .i64 (r.1))), (V.v (.int .i64 (r.2)))])
theorem h_hull_Volume : Has Tryz.prog 14 c_hull_Volume := by
  refine hasF (ctx_cons h_hull_ship_volume (ctx_cons h_hull_launch (ctx_cons h_numbers_Within ctx_nil))) mix Tryz.func14 rfl (by kernel_rfl) ?_
  rintro ⟨a0, a1⟩ r hF
  refine ⟨of_decide_eq_true rfl, ?_⟩
  refine st1 ?_
  obtain ⟨_, h, hF⟩ := e_bind hF
  (first | refine g_call h lv1 ?_ | refine g_callT h lv1 ?_)
  (conv => arg 1; whnf)
  refine st1 ?_
  rcases e_bif hF with ⟨hb1, hF⟩ | ⟨hb1, hF⟩ <;> (first | rw [hb1] | (conv => arg 7; rw [hb1]))
  · refine st1 ?_
    have hq : some _ = some _ := hF
    cases hq
    exact en1
  · refine st1 ?_
    obtain ⟨_, h, hF⟩ := e_bind hF
    (first | refine g_call h lv1 ?_ | refine g_callT h lv1 ?_)
    (conv => arg 1; whnf)
    refine st1 ?_
    rcases e_bif hF with ⟨hb2, hF⟩ | ⟨hb2, hF⟩ <;> (first | rw [hb2] | (conv => arg 7; rw [hb2]))
    · refine st1 ?_
      have hq : some _ = some _ := hF
      cases hq
      exact en1
    · refine st1 ?_
      obtain ⟨_, h, hF⟩ := e_bind hF
      (first | refine g_call h lv1 ?_ | refine g_callT h lv1 ?_)
      (conv => arg 1; whnf)
      refine st1 ?_
      have hq : some _ = some _ := hF
      cases hq
      exact en1


@[reducible] noncomputable def c_hull_ship_checkLoad : Con := conF F_hull_ship_checkLoad (fun x => match x with | (a0, a1) => [(V.agg (eThull_ship a0)), (V.sl (recs (eI .i64) (a1)) (a1).length)]) (fun r => (V.v (.int .i64 (r))))
theorem h_hull_ship_checkLoad : Has Tryz.prog 53 c_hull_ship_checkLoad := by
  refine hasF (ctx_cons h_numbers_Within ctx_nil) mix Tryz.func53 rfl (by kernel_rfl) ?_
  rintro ⟨a0, a1⟩ r hF
  refine ⟨of_decide_eq_true rfl, ?_⟩
  refine st1 ?_
  rcases e_bif hF with ⟨hb1, hF⟩ | ⟨hb1, hF⟩ <;> (first | rw [hb1] | (conv => arg 7; rw [hb1]))
  · refine st1 ?_
    have hq : some _ = some _ := hF
    cases hq
    exact en1
  · refine st1 ?_
    refine st_loopF (e_assoc hF) () [(0, _)] ⟨sT, sS, by rfl, by rfl⟩ ?_
    · rintro n _ _ x hx1 hF
      (conv => arg 7; whnf); (conv => arg 8; whnf); (conv => arg 9; whnf)
      refine st1 ?_
      rcases e_bif hF with ⟨hb6, hF⟩ | ⟨hb6, hF⟩ <;> (first | rw [hb6] | (conv => arg 7; rw [hb6]))
      · refine st1 ?_
        obtain ⟨_, h, hF⟩ := e_bind hF
        (first | refine o_ia (enc := (eI .i64)) (s := 1) h (fun _ => rfl) (by decide) ?_ | refine o_iaT (enc := (eI .i64)) (s := 1) h (fun _ => rfl) (by decide) ?_)
        intro _
        refine st1 ?_
        obtain ⟨_, h, hF⟩ := e_bind hF
        (first | refine o_ia (enc := eThull_hold) (s := 3) h (fun _ => rfl) (by decide) ?_ | refine o_iaT (enc := eThull_hold) (s := 3) h (fun _ => rfl) (by decide) ?_)
        intro _
        refine st1 ?_
        obtain ⟨_, h, hF⟩ := e_bind hF
        (first | refine g_call h lv1 ?_ | refine g_callT h lv1 ?_)
        (conv => arg 1; whnf)
        refine st1 ?_
        rcases e_bif hF with ⟨hb7, hF⟩ | ⟨hb7, hF⟩ <;> (first | rw [hb7] | (conv => arg 7; rw [hb7]))
        · refine st1 ?_
          have hF := e_some hF
          have hq : some _ = some _ := hF
          cases hq
          exact en1
        · refine st1 ?_
          exact k_loopF (e_some hF) hx1 () [(0, _)] ⟨sT, sS, by rfl, by rfl⟩
      · refine st1 ?_
        have hF := e_some hF
        have hq : some _ = some _ := hF
        cases hq
        exact en1


@[reducible] noncomputable def c_numbers_Valid : Con := conF F_numbers_Valid (fun x => match x with | (a0, a1, a2) => [(V.agg (eTBounds a0)), (V.v (.int .i64 (a1))), (V.v (.int .i64 (a2)))]) (fun r => (V.v (.bool (r))))
theorem h_numbers_Valid : Has Tryz.prog 84 c_numbers_Valid := by
  refine hasF (ctx_cons h_numbers_Within ctx_nil) mix Tryz.func84 rfl (by kernel_rfl) ?_
  rintro ⟨a0, a1, a2⟩ r hF
  refine ⟨of_decide_eq_true rfl, ?_⟩
  refine st1 ?_
  rcases e_bif hF with ⟨hb1, hF⟩ | ⟨hb1, hF⟩ <;> (first | rw [hb1] | (conv => arg 7; rw [hb1]))
  · refine st1 ?_
    obtain ⟨_, h, hF⟩ := e_bind hF
    (first | refine g_call h lv1 ?_ | refine g_callT h lv1 ?_)
    (conv => arg 1; whnf)
    refine st1 ?_
    have hq : some _ = some _ := hF
    cases hq
    exact en1
  · refine st1 ?_
    have hq : some _ = some _ := hF
    cases hq
    exact en1


@[reducible] noncomputable def c_hull_validDensity : Con := conF F_hull_validDensity (fun x => match x with | (a0) => [(V.agg (eTBounds a0))]) (fun r => (V.v (.bool (r))))
theorem h_hull_validDensity : Has Tryz.prog 54 c_hull_validDensity := by
  refine hasF (ctx_cons h_numbers_Valid ctx_nil) mix Tryz.func54 rfl (by kernel_rfl) ?_
  rintro a0 r hF
  refine ⟨of_decide_eq_true rfl, ?_⟩
  refine st1 ?_
  obtain ⟨_, h, hF⟩ := e_bind hF
  (first | refine g_call h lv1 ?_ | refine g_callT h lv1 ?_)
  (conv => arg 1; whnf)
  refine st1 ?_
  have hq : some _ = some _ := hF
  cases hq
  exact en1


@[reducible] noncomputable def c_hull_ship_loaded : Con := conF F_hull_ship_loaded (fun x => match x with | (a0, a1) => [(V.agg (eThull_ship a0)), (V.sl (recs (eI .i64) (a1)) (a1).length)]) (fun r => V.tup [(V.v (.int .i64 (r.1))), (V.v (.int .i64 (r.2)))])
theorem h_hull_ship_loaded : Has Tryz.prog 92 c_hull_ship_loaded := by
  refine hasF ctx_nil mix Tryz.func92 rfl (by kernel_rfl) ?_
  rintro ⟨a0, a1⟩ r hF
  refine ⟨of_decide_eq_true rfl, ?_⟩
  refine st1 ?_
  refine st_loopF (e_assoc hF) () [(0, _)] ⟨sT, sS, by rfl, by rfl⟩ ?_
  · rintro n ⟨_, _, _⟩ _ x hx1 hF
    (conv => arg 7; whnf); (conv => arg 8; whnf); (conv => arg 9; whnf)
    refine st1 ?_
    rcases e_bif hF with ⟨hb3, hF⟩ | ⟨hb3, hF⟩ <;> (first | rw [hb3] | (conv => arg 7; rw [hb3]))
    · refine st1 ?_
      obtain ⟨_, h, hF⟩ := e_bind hF
      (first | refine o_ia (enc := (eI .i64)) (s := 1) h (fun _ => rfl) (by decide) ?_ | refine o_iaT (enc := (eI .i64)) (s := 1) h (fun _ => rfl) (by decide) ?_)
      intro _
      refine st1 ?_
      obtain ⟨_, h, hF⟩ := e_bind hF
      (first | refine o_ia (enc := eThull_hold) (s := 3) h (fun _ => rfl) (by decide) ?_ | refine o_iaT (enc := eThull_hold) (s := 3) h (fun _ => rfl) (by decide) ?_)
      intro _
      refine st1 ?_
      exact k_loopF (e_some hF) hx1 () [(0, _)] ⟨sT, sS, by rfl, by rfl⟩
    · refine st1 ?_
      have hF := e_some hF
      have hq : some _ = some _ := hF
      cases hq
      exact en1


@[reducible] noncomputable def c_numbers_Down : Con := conF F_numbers_Down (fun x => match x with | (a0, a1) => [(V.v (.int .i64 (a0))), (V.v (.int .i64 (a1)))]) (fun r => (V.v (.int .i64 (r))))
theorem h_numbers_Down : Has Tryz.prog 120 c_numbers_Down := by
  refine hasF ctx_nil mix Tryz.func120 rfl (by kernel_rfl) ?_
  rintro ⟨a0, a1⟩ r hF
  refine ⟨of_decide_eq_true rfl, ?_⟩
  refine st1 ?_
  obtain ⟨_, h, hF⟩ := e_bind hF
  (first | refine go_req (nz_ne h) ?_ | refine goT_req (nz_ne h) ?_)
  (conv => arg 1; whnf)
  refine st1 ?_
  rcases e_bif hF with ⟨hb1, hF⟩ | ⟨hb1, hF⟩ <;> (first | rw [hb1] | (conv => arg 7; rw [hb1]))
  · refine st1 ?_
    obtain ⟨_, h, hF⟩ := e_bind hF
    (first | refine go_req (nz_ne h) ?_ | refine goT_req (nz_ne h) ?_)
    (conv => arg 1; whnf)
    refine st1 ?_
    have hq : some _ = some _ := hF
    cases hq
    exact en1
  · refine st1 ?_
    obtain ⟨_, h, hF⟩ := e_bind hF
    (first | refine go_req (nz_ne h) ?_ | refine goT_req (nz_ne h) ?_)
    (conv => arg 1; whnf)
    refine st1 ?_
    have hq : some _ = some _ := hF
    cases hq
    exact en1


@[reducible] noncomputable def c_numbers_Up : Con := conF F_numbers_Up (fun x => match x with | (a0, a1) => [(V.v (.int .i64 (a0))), (V.v (.int .i64 (a1)))]) (fun r => (V.v (.int .i64 (r))))
theorem h_numbers_Up : Has Tryz.prog 94 c_numbers_Up := by
  refine hasF (ctx_cons h_numbers_Down ctx_nil) mix Tryz.func94 rfl (by kernel_rfl) ?_
  rintro ⟨a0, a1⟩ r hF
  refine ⟨of_decide_eq_true rfl, ?_⟩
  refine st1 ?_
  obtain ⟨_, h, hF⟩ := e_bind hF
  (first | refine g_call h lv1 ?_ | refine g_callT h lv1 ?_)
  (conv => arg 1; whnf)
  refine st1 ?_
  have hq : some _ = some _ := hF
  cases hq
  exact en1


@[reducible] noncomputable def c_sort_Search (C : FuncId → Option Con) : Con := conK F_sort_Search (fun x => match x with | (a0, a1, g, caps) => [(V.v (.int .i64 (a0))), (V.fn g caps)]) (fun x => match x with | (a0, a1, g, caps) => Callable (ext C []) g caps (fun x => match x with | (q0) => [(V.v (.int .i64 (q0)))]) (fun r => (V.v (.bool (r)))) a1) (fun r => (V.v (.int .i64 (r))))
theorem h_sort_Search {C : FuncId → Option Con} (hC : CtxOK Tryz.prog C) : Has Tryz.prog 118 (c_sort_Search C) := by
  refine hasK (ext_nil hC) mix Tryz.func118 rfl (by kernel_rfl) ?_
  rintro ⟨a0, a1, g, caps⟩ r hcl hF
  obtain ⟨hcaps, c, hc, hce, hcall⟩ := id hcl
  refine ⟨of_decide_eq_true rfl, ?_⟩
  refine st1 ?_
  refine st_loopF (e_assoc hF) () [] ⟨sT, sS, by rfl, by rfl⟩ ?_
  · rintro n ⟨_, _⟩ _ x hx1 hF
    (conv => arg 7; whnf); (conv => arg 8; whnf); (conv => arg 9; whnf)
    refine st1 ?_
    rcases e_bif hF with ⟨hb5, hF⟩ | ⟨hb5, hF⟩ <;> (first | rw [hb5] | (conv => arg 7; rw [hb5]))
    · refine st1 ?_
      obtain ⟨_, h, hF⟩ := e_bind hF
      rw [hc]
      (conv => arg 1; whnf)
      rw [hce]
      (conv => arg 1; whnf)
      (first | refine go_map hcaps rfl ?_ | refine goT_map hcaps rfl ?_)
      (conv => arg 1; whnf)
      obtain ⟨z, hz1, hz2, hz3⟩ := hcall _ _ h
      (first | refine go_exi z ⟨levs_eq hz1.symm, hz2⟩ ?_ | refine goT_exi z ⟨levs_eq hz1.symm, hz2⟩ ?_)
      rw [hz3]
      (conv => arg 1; whnf)
      refine st1 ?_
      rcases e_bif hF with ⟨hb6, hF⟩ | ⟨hb6, hF⟩ <;> (first | rw [hb6] | (conv => arg 7; rw [hb6]))
      · refine st1 ?_
        exact k_loopF (e_some hF) hx1 () [] ⟨sT, sS, by rfl, by rfl⟩
      · refine st1 ?_
        exact k_loopF (e_some hF) hx1 () [] ⟨sT, sS, by rfl, by rfl⟩
    · refine st1 ?_
      have hF := e_some hF
      have hq : some _ = some _ := hF
      cases hq
      exact en1


@[reducible] noncomputable def c_hull_ship_mean_1 : Con := conF F_hull_ship_mean_1 (fun x => match x with | (a0, c0, c1) => [(V.v (.int .i64 (a0))), (V.fptr [(V.v (.int .i64 (c0.Hull.Lot))), (V.sl (recs eTHullSection (c0.Hull.Sections)) (c0.Hull.Sections).length), (V.v (.int .i64 (c0.limit_))), (V.v (.int .i64 (c0.trim_))), (V.v (.int .i64 (c0.mass_))), (V.v (.int .i64 (c0.moment_))), (V.sl (recs eThull_hold (c0.storage_)) (c0.storage_).length)]), (V.fptr [(V.v (.int .i64 (c1)))])]) (fun r => (V.v (.bool (r))))
theorem h_hull_ship_mean_1 : Has Tryz.prog 119 c_hull_ship_mean_1 := by
  refine hasF (ctx_cons h_hull_ship_volume ctx_nil) mix Tryz.func119 rfl (by kernel_rfl) ?_
  rintro ⟨a0, c0, c1⟩ r hF
  refine ⟨of_decide_eq_true rfl, ?_⟩
  refine st1 ?_
  obtain ⟨_, h, hF⟩ := e_bind hF
  (first | refine g_call h lv1 ?_ | refine g_callT h lv1 ?_)
  (conv => arg 1; whnf)
  refine st1 ?_
  have hq : some _ = some _ := hF
  cases hq
  exact en1


@[reducible] noncomputable def c_hull_ship_mean : Con := conF F_hull_ship_mean (fun x => match x with | (a0, a1, a2) => [(V.agg (eThull_ship a0)), (V.v (.int .i64 (a1))), (V.v (.int .i64 (a2)))]) (fun r => (V.v (.int .i64 (r))))
theorem h_hull_ship_mean : Has Tryz.prog 93 c_hull_ship_mean := by
  refine hasF (ctx_cons (h_sort_Search (ctx_cons h_hull_ship_mean_1 ctx_nil)) (ctx_cons h_numbers_Up ctx_nil)) mix Tryz.func93 rfl (by kernel_rfl) ?_
  rintro ⟨a0, a1, a2⟩ r hF
  refine ⟨of_decide_eq_true rfl, ?_⟩
  refine st1 ?_
  obtain ⟨_, h, hF⟩ := e_bind hF
  (first | refine g_call h lv1 ?_ | refine g_callT h lv1 ?_)
  (conv => arg 1; whnf)
  refine st1 ?_
  obtain ⟨_, h, hF⟩ := e_bind hF
  (first | refine g_hcall h lv1 (callable_conF rfl rfl (fun _ => rfl)) ?_ | refine g_hcallT h lv1 (callable_conF rfl rfl (fun _ => rfl)) ?_)
  (conv => arg 1; whnf)
  refine st1 ?_
  have hq : some _ = some _ := hF
  cases hq
  exact en1


@[reducible] noncomputable def c_hull_withoutSign : Con := conF F_hull_withoutSign (fun x => match x with | (a0) => [(V.v (.int .i64 (a0)))]) (fun r => (V.v (.int .i64 (r))))
theorem h_hull_withoutSign : Has Tryz.prog 95 c_hull_withoutSign := by
  refine hasF ctx_nil mix Tryz.func95 rfl (by kernel_rfl) ?_
  rintro a0 r hF
  refine ⟨of_decide_eq_true rfl, ?_⟩
  refine st1 ?_
  have hq : some _ = some _ := hF
  cases hq
  exact en1


@[reducible] noncomputable def c_cmp_isNaN_int : Con := conF F_cmp_isNaN_int (fun x => match x with | (a0) => [(V.v (.int .i64 (a0)))]) (fun r => (V.v (.bool (r))))
theorem h_cmp_isNaN_int : Has Tryz.prog 121 c_cmp_isNaN_int := by
  refine hasF ctx_nil mix Tryz.func121 rfl (by kernel_rfl) ?_
  rintro a0 r hF
  refine ⟨of_decide_eq_true rfl, ?_⟩
  refine st1 ?_
  have hq : some _ = some _ := hF
  cases hq
  exact en1


@[reducible] noncomputable def c_cmp_Compare_int : Con := conF F_cmp_Compare_int (fun x => match x with | (a0, a1) => [(V.v (.int .i64 (a0))), (V.v (.int .i64 (a1)))]) (fun r => (V.v (.int .i64 (r))))
theorem h_cmp_Compare_int : Has Tryz.prog 96 c_cmp_Compare_int := by
  refine hasF (ctx_cons h_cmp_isNaN_int ctx_nil) mix Tryz.func96 rfl (by kernel_rfl) ?_
  rintro ⟨a0, a1⟩ r hF
  simp only [F_cmp_Compare_int] at hF
  refine ⟨of_decide_eq_true rfl, ?_⟩
  refine st1 ?_
  obtain ⟨_, h, hF⟩ := e_bind hF
  (first | refine g_call h lv1 ?_ | refine g_callT h lv1 ?_)
  (conv => arg 1; whnf)
  refine st1 ?_
  obtain ⟨_, h, hF⟩ := e_bind hF
  (first | refine g_call h lv1 ?_ | refine g_callT h lv1 ?_)
  (conv => arg 1; whnf)
  refine st1 ?_
  rcases e_bif hF with ⟨hb1, hF⟩ | ⟨hb1, hF⟩ <;> (first | rw [hb1] | (conv => arg 7; rw [hb1]))
  · refine st1 ?_
    rcases e_bif hF with ⟨hb2, hF⟩ | ⟨hb2, hF⟩ <;> (first | rw [hb2] | (conv => arg 7; rw [hb2]))
    · refine st1 ?_
      have hq : some _ = some _ := hF
      cases hq
      exact en1
    · refine st1 ?_
      have hq : some _ = some _ := hF
      cases hq
      exact en1
  · refine st1 ?_
    rcases e_bif hF with ⟨hb3, hF⟩ | ⟨hb3, hF⟩ <;> (first | rw [hb3] | (conv => arg 7; rw [hb3]))
    · refine st1 ?_
      have hq : some _ = some _ := hF
      cases hq
      exact en1
    · refine st1 ?_
      rcases e_bif hF with ⟨hb4, hF⟩ | ⟨hb4, hF⟩ <;> (first | rw [hb4] | (conv => arg 7; rw [hb4]))
      · refine st1 ?_
        have hq : some _ = some _ := hF
        cases hq
        exact en1
      · refine st1 ?_
        rcases e_bif hF with ⟨hb5, hF⟩ | ⟨hb5, hF⟩ <;> (first | rw [hb5] | (conv => arg 7; rw [hb5]))
        · refine st1 ?_
          have hq : some _ = some _ := hF
          cases hq
          exact en1
        · refine st1 ?_
          have hq : some _ = some _ := hF
          cases hq
          exact en1


@[reducible] noncomputable def c_hull_ship_float : Con := conF F_hull_ship_float (fun x => match x with | (a0, a1, a2) => [(V.agg (eThull_ship a0)), (V.sl (recs (eI .i64) (a1)) (a1).length), (V.agg (eTBounds a2))]) (fun r => V.tup [(V.agg (eTHullFloat r.1)), (V.v (.int .i64 (r.2)))])
theorem h_hull_ship_float : Has Tryz.prog 55 c_hull_ship_float := by
  refine hasF (ctx_cons h_cmp_Compare_int (ctx_cons h_hull_withoutSign (ctx_cons h_numbers_Up (ctx_cons h_hull_ship_mean (ctx_cons h_hull_ship_loaded ctx_nil))))) mix Tryz.func55 rfl (by kernel_rfl) ?_
  rintro ⟨a0, a1, a2⟩ r hF
  refine ⟨of_decide_eq_true rfl, ?_⟩
  refine st1 ?_
  obtain ⟨_, h, hF⟩ := e_bind hF
  (first | refine g_call h lv1 ?_ | refine g_callT h lv1 ?_)
  (conv => arg 1; whnf)
  refine st1 ?_
  obtain ⟨_, h, hF⟩ := e_bind hF
  (first | refine g_call h lv1 ?_ | refine g_callT h lv1 ?_)
  (conv => arg 1; whnf)
  refine st1 ?_
  obtain ⟨_, h, hF⟩ := e_bind hF
  (first | refine g_call h lv1 ?_ | refine g_callT h lv1 ?_)
  (conv => arg 1; whnf)
  refine st1 ?_
  obtain ⟨_, h, hF⟩ := e_bind hF
  (first | refine g_call h lv1 ?_ | refine g_callT h lv1 ?_)
  (conv => arg 1; whnf)
  refine st1 ?_
  obtain ⟨_, h, hF⟩ := e_bind hF
  (first | refine g_call h lv1 ?_ | refine g_callT h lv1 ?_)
  (conv => arg 1; whnf)
  refine st1 ?_
  rcases e_bif hF with ⟨hb1, hF⟩ | ⟨hb1, hF⟩ <;> (first | rw [hb1] | (conv => arg 7; rw [hb1]))
  · refine st1 ?_
    have hq : some _ = some _ := hF
    cases hq
    exact en1
  · refine st1 ?_
    obtain ⟨_, h, hF⟩ := e_bind hF
    (first | refine g_call h lv1 ?_ | refine g_callT h lv1 ?_)
    (conv => arg 1; whnf)
    refine st1 ?_
    have hq : some _ = some _ := hF
    cases hq
    exact en1


@[reducible] noncomputable def c_hull_Float : Con := conF F_hull_Float (fun x => match x with | (a0, a1, a2) => [(V.agg (eTHull a0)), (V.sl (recs (eI .i64) (a1)) (a1).length), (V.agg (eTBounds a2))]) (fun r => V.tup [(V.agg (eTHullFloat r.1)), (V.v (.int .i64 (r.2)))])
theorem h_hull_Float : Has Tryz.prog 15 c_hull_Float := by
  refine hasF (ctx_cons h_hull_ship_float (ctx_cons h_hull_validDensity (ctx_cons h_hull_ship_checkLoad (ctx_cons h_hull_launch ctx_nil)))) mix Tryz.func15 rfl (by kernel_rfl) ?_
  rintro ⟨a0, a1, a2⟩ r hF
  refine ⟨of_decide_eq_true rfl, ?_⟩
  refine st1 ?_
  obtain ⟨_, h, hF⟩ := e_bind hF
  (first | refine g_call h lv1 ?_ | refine g_callT h lv1 ?_)
  (conv => arg 1; whnf)
  refine st1 ?_
  rcases e_bif hF with ⟨hb1, hF⟩ | ⟨hb1, hF⟩ <;> (first | rw [hb1] | (conv => arg 7; rw [hb1]))
  · refine st1 ?_
    have hq : some _ = some _ := hF
    cases hq
    exact en1
  · refine st1 ?_
    obtain ⟨_, h, hF⟩ := e_bind hF
    (first | refine g_call h lv1 ?_ | refine g_callT h lv1 ?_)
    (conv => arg 1; whnf)
    refine st1 ?_
    rcases e_bif hF with ⟨hb2, hF⟩ | ⟨hb2, hF⟩ <;> (first | rw [hb2] | (conv => arg 7; rw [hb2]))
    · refine st1 ?_
      have hq : some _ = some _ := hF
      cases hq
      exact en1
    · refine st1 ?_
      obtain ⟨_, h, hF⟩ := e_bind hF
      (first | refine g_call h lv1 ?_ | refine g_callT h lv1 ?_)
      (conv => arg 1; whnf)
      refine st1 ?_
      rcases e_bif hF with ⟨hb3, hF⟩ | ⟨hb3, hF⟩ <;> (first | rw [hb3] | (conv => arg 7; rw [hb3]))
      · refine st1 ?_
        have hq : some _ = some _ := hF
        cases hq
        exact en1
      · refine st1 ?_
        obtain ⟨_, h, hF⟩ := e_bind hF
        (first | refine g_call h lv1 ?_ | refine g_callT h lv1 ?_)
        (conv => arg 1; whnf)
        refine st1 ?_
        have hq : some _ = some _ := hF
        cases hq
        exact en1


@[reducible] noncomputable def c_thalweglaw02_same : Con := conF F_thalweglaw02_same (fun x => match x with | (a0, a1) => [(V.agg (eTHull a0)), (V.agg (eTHull a1))]) (fun r => (V.v (.bool (r))))
theorem fl_thalweglaw02_same_75 : flatOf Tryz.prog 9 75 = some [true, true] := by kernel_rfl
theorem eg_thalweglaw02_same_75 : Tryz.prog.eqGuardType Tryz.prog.depth 75 = false := by kernel_rfl
theorem ag_thalweglaw02_same_75 : aggOf Tryz.prog 75 = some true := by kernel_rfl
theorem fl_thalweglaw02_same_136 : flatOf Tryz.prog 9 136 = some [true, true] := by kernel_rfl
theorem eg_thalweglaw02_same_136 : Tryz.prog.eqGuardType Tryz.prog.depth 136 = false := by kernel_rfl
theorem ag_thalweglaw02_same_136 : aggOf Tryz.prog 136 = some true := by kernel_rfl
theorem h_thalweglaw02_same : Has Tryz.prog 16 c_thalweglaw02_same := by
  refine hasF ctx_nil mix Tryz.func16 rfl (by kernel_rfl) ?_
  rintro ⟨a0, a1⟩ r hF
  refine ⟨of_decide_eq_true rfl, ?_⟩
  refine st1 ?_
  rcases e_bif hF with ⟨hb1, hF⟩ | ⟨hb1, hF⟩ <;> (first | rw [hb1] | (conv => arg 7; rw [hb1]))
  · refine st1 ?_
    have hq : some _ = some _ := hF
    cases hq
    exact en1
  · refine st1 ?_
    rcases e_bif hF with ⟨hb2, hF⟩ | ⟨hb2, hF⟩ <;> (first | rw [hb2] | (conv => arg 7; rw [hb2]))
    · refine st1 ?_
      have hq : some _ = some _ := hF
      cases hq
      exact en1
    · refine st1 ?_
      refine st_loopF (e_assoc hF) () [(0, _), (1, _)] ⟨sT, sS, by rfl, by rfl⟩ ?_
      · rintro n _ _ x hx1 hF
        (conv => arg 7; whnf); (conv => arg 8; whnf); (conv => arg 9; whnf)
        refine st1 ?_
        rcases e_bif hF with ⟨hb39, hF⟩ | ⟨hb39, hF⟩ <;> (first | rw [hb39] | (conv => arg 7; rw [hb39]))
        · refine st1 ?_
          obtain ⟨_, h, hF⟩ := e_bind hF
          (first | refine o_ia (enc := eTHullSection) (s := 5) h (fun _ => rfl) (by decide) ?_ | refine o_iaT (enc := eTHullSection) (s := 5) h (fun _ => rfl) (by decide) ?_)
          intro _
          refine st1 ?_
          obtain ⟨_, h, hF⟩ := e_bind hF
          (first | refine o_ia (enc := eTHullSection) (s := 5) h (fun _ => rfl) (by decide) ?_ | refine o_iaT (enc := eTHullSection) (s := 5) h (fun _ => rfl) (by decide) ?_)
          intro _
          refine st1 ?_
          rcases e_bif hF with ⟨hb40, hF⟩ | ⟨hb40, hF⟩ <;> (first | rw [hb40] | (conv => arg 7; rw [hb40]))
          · refine st1 ?_
            have hF := e_some hF
            have hq : some _ = some _ := hF
            cases hq
            exact en1
          · refine st1 ?_
            rcases e_bif hF with ⟨hb41, hF⟩ | ⟨hb41, hF⟩ <;> (first | rw [hb41] | (conv => arg 7; rw [hb41]))
            · refine st1 ?_
              have hF := e_some hF
              have hq : some _ = some _ := hF
              cases hq
              exact en1
            · refine st1 ?_
              rcases e_bif hF with ⟨hb42, hF⟩ | ⟨hb42, hF⟩ <;> (first | rw [hb42] | (conv => arg 7; rw [hb42]))
              · refine st1 ?_
                have hF := e_some hF
                have hq : some _ = some _ := hF
                cases hq
                exact en1
              · refine st1 ?_
                rcases e_bif hF with ⟨hb43, hF⟩ | ⟨hb43, hF⟩ <;> (first | rw [hb43] | (conv => arg 7; rw [hb43]))
                · refine st1 ?_
                  have hF := e_some hF
                  have hq : some _ = some _ := hF
                  cases hq
                  exact en1
                · refine st1 ?_
                  rcases e_bif hF with ⟨hb44, hF⟩ | ⟨hb44, hF⟩ <;> (first | rw [hb44] | (conv => arg 7; rw [hb44]))
                  · refine st1 ?_
                    have hF := e_some hF
                    have hq : some _ = some _ := hF
                    cases hq
                    exact en1
                  · refine st1 ?_
                    refine st_loopF (e_assoc hF) () [(0, _), (1, _), (17, _), (18, _)] ⟨sT, sS, by rfl, by rfl⟩ ?_
                    · rintro n _ _ x hx2 hF
                      (conv => arg 7; whnf); (conv => arg 8; whnf); (conv => arg 9; whnf)
                      refine st1 ?_
                      rcases e_bif hF with ⟨hb49, hF⟩ | ⟨hb49, hF⟩ <;> (first | rw [hb49] | (conv => arg 7; rw [hb49]))
                      · refine st1 ?_
                        obtain ⟨_, h, hF⟩ := e_bind hF
                        (first | refine o_ia (enc := eTHullRow) (s := 2) h (fun _ => rfl) (by decide) ?_ | refine o_iaT (enc := eTHullRow) (s := 2) h (fun _ => rfl) (by decide) ?_)
                        intro _
                        refine st1 ?_
                        obtain ⟨_, h, hF⟩ := e_bind hF
                        (first | refine o_ia (enc := eTHullRow) (s := 2) h (fun _ => rfl) (by decide) ?_ | refine o_iaT (enc := eTHullRow) (s := 2) h (fun _ => rfl) (by decide) ?_)
                        intro _
                        refine st1 ?_
                        rw [fl_thalweglaw02_same_136, eg_thalweglaw02_same_136, ag_thalweglaw02_same_136]
                        (conv => arg 1; whnf)
                        refine st1 ?_
                        rcases e_bif hF with ⟨hb50, hF⟩ | ⟨hb50, hF⟩ <;> (first | rw [hb50] | (conv => arg 7; rw [hb50]))
                        · refine st1 ?_
                          have hF := e_some hF
                          have hF := e_some hF
                          have hq : some _ = some _ := hF
                          cases hq
                          exact en1
                        · refine st1 ?_
                          exact k_loopF (e_some hF) hx2 () [(0, _), (1, _), (17, _), (18, _)] ⟨sT, sS, by rfl, by rfl⟩
                      · refine st1 ?_
                        have hF := e_some hF
                        refine st_loopF (e_assoc hF) () [(0, _), (1, _), (17, _), (18, _)] ⟨sT, sS, by rfl, by rfl⟩ ?_
                        · rintro n _ _ x hx2 hF
                          (conv => arg 7; whnf); (conv => arg 8; whnf); (conv => arg 9; whnf)
                          refine st1 ?_
                          rcases e_bif hF with ⟨hb55, hF⟩ | ⟨hb55, hF⟩ <;> (first | rw [hb55] | (conv => arg 7; rw [hb55]))
                          · refine st1 ?_
                            obtain ⟨_, h, hF⟩ := e_bind hF
                            (first | refine o_ia (enc := eTHullHold) (s := 2) h (fun _ => rfl) (by decide) ?_ | refine o_iaT (enc := eTHullHold) (s := 2) h (fun _ => rfl) (by decide) ?_)
                            intro _
                            refine st1 ?_
                            obtain ⟨_, h, hF⟩ := e_bind hF
                            (first | refine o_ia (enc := eTHullHold) (s := 2) h (fun _ => rfl) (by decide) ?_ | refine o_iaT (enc := eTHullHold) (s := 2) h (fun _ => rfl) (by decide) ?_)
                            intro _
                            refine st1 ?_
                            rw [fl_thalweglaw02_same_75, eg_thalweglaw02_same_75, ag_thalweglaw02_same_75]
                            (conv => arg 1; whnf)
                            refine st1 ?_
                            rcases e_bif hF with ⟨hb56, hF⟩ | ⟨hb56, hF⟩ <;> (first | rw [hb56] | (conv => arg 7; rw [hb56]))
                            · refine st1 ?_
                              have hF := e_some hF
                              have hF := e_some hF
                              have hq : some _ = some _ := hF
                              cases hq
                              exact en1
                            · refine st1 ?_
                              exact k_loopF (e_some hF) hx2 () [(0, _), (1, _), (17, _), (18, _)] ⟨sT, sS, by rfl, by rfl⟩
                          · refine st1 ?_
                            have hF := e_some hF
                            exact k_loopF (e_some hF) hx1 () [(0, _), (1, _)] ⟨sT, sS, by rfl, by rfl⟩
        · refine st1 ?_
          have hF := e_some hF
          have hq : some _ = some _ := hF
          cases hq
          exact en1


@[reducible] noncomputable def c_thalweglaw02_equal : Con := conF F_thalweglaw02_equal (fun x => match x with | (a0, a1) => [(V.sl (recs (eI .i64) (a0)) (a0).length), (V.sl (recs (eI .i64) (a1)) (a1).length)]) (fun r => (V.v (.bool (r))))
theorem h_thalweglaw02_equal : Has Tryz.prog 17 c_thalweglaw02_equal := by
  refine hasF ctx_nil mix Tryz.func17 rfl (by kernel_rfl) ?_
  rintro ⟨a0, a1⟩ r hF
  refine ⟨of_decide_eq_true rfl, ?_⟩
  refine st1 ?_
  rcases e_bif hF with ⟨hb1, hF⟩ | ⟨hb1, hF⟩ <;> (first | rw [hb1] | (conv => arg 7; rw [hb1]))
  · refine st1 ?_
    have hq : some _ = some _ := hF
    cases hq
    exact en1
  · refine st1 ?_
    refine st_loopF (e_assoc hF) () [] ⟨sT, sS, by rfl, by rfl⟩ ?_
    · rintro n _ _ x hx1 hF
      (conv => arg 7; whnf); (conv => arg 8; whnf); (conv => arg 9; whnf)
      refine st1 ?_
      rcases e_bif hF with ⟨hb6, hF⟩ | ⟨hb6, hF⟩ <;> (first | rw [hb6] | (conv => arg 7; rw [hb6]))
      · refine st1 ?_
        obtain ⟨_, h, hF⟩ := e_bind hF
        (first | refine o_ia (enc := (eI .i64)) (s := 1) h (fun _ => rfl) (by decide) ?_ | refine o_iaT (enc := (eI .i64)) (s := 1) h (fun _ => rfl) (by decide) ?_)
        intro _
        refine st1 ?_
        obtain ⟨_, h, hF⟩ := e_bind hF
        (first | refine o_ia (enc := (eI .i64)) (s := 1) h (fun _ => rfl) (by decide) ?_ | refine o_iaT (enc := (eI .i64)) (s := 1) h (fun _ => rfl) (by decide) ?_)
        intro _
        refine st1 ?_
        rcases e_bif hF with ⟨hb7, hF⟩ | ⟨hb7, hF⟩ <;> (first | rw [hb7] | (conv => arg 7; rw [hb7]))
        · refine st1 ?_
          have hF := e_some hF
          have hq : some _ = some _ := hF
          cases hq
          exact en1
        · refine st1 ?_
          exact k_loopF (e_some hF) hx1 () [] ⟨sT, sS, by rfl, by rfl⟩
      · refine st1 ?_
        have hF := e_some hF
        have hq : some _ = some _ := hF
        cases hq
        exact en1


@[reducible] noncomputable def c_thalwegref02_Holds : Con := conF F_thalwegref02_Holds (fun x => match x with | (a0) => [(V.agg (eTHull a0))]) (fun r => (V.sl (recs eTHullHold (r)) (r).length))
theorem h_thalwegref02_Holds : Has Tryz.prog 31 c_thalwegref02_Holds := by
  refine hasF ctx_nil mix Tryz.func31 rfl (by kernel_rfl) ?_
  rintro a0 r hF
  refine ⟨of_decide_eq_true rfl, ?_⟩
  refine st1 ?_
  refine st_loopF (e_assoc hF) () [(0, _), (2, _)] ⟨sT, sS, by rfl, by rfl⟩ ?_
  · rintro n ⟨_, _, _⟩ _ x hx1 hF
    (conv => arg 7; whnf); (conv => arg 8; whnf); (conv => arg 9; whnf)
    refine st1 ?_
    rcases e_bif hF with ⟨hb9, hF⟩ | ⟨hb9, hF⟩ <;> (first | rw [hb9] | (conv => arg 7; rw [hb9]))
    · refine st1 ?_
      refine st_loopF (e_assoc hF) () [(0, _), (2, _)] ⟨sT, sS, by rfl, by rfl⟩ ?_
      · rintro n ⟨_, _⟩ _ x hx2 hF
        (conv => arg 7; whnf); (conv => arg 8; whnf); (conv => arg 9; whnf)
        refine st1 ?_
        obtain ⟨_, h, hF⟩ := e_bind hF
        (first | refine o_ia (enc := eTHullSection) (s := 5) h (fun _ => rfl) (by decide) ?_ | refine o_iaT (enc := eTHullSection) (s := 5) h (fun _ => rfl) (by decide) ?_)
        intro _
        refine st1 ?_
        rcases e_bif hF with ⟨hb12, hF⟩ | ⟨hb12, hF⟩ <;> (first | rw [hb12] | (conv => arg 7; rw [hb12]))
        · refine st1 ?_
          obtain ⟨_, h, hF⟩ := e_bind hF
          (first | refine o_ia (enc := eTHullSection) (s := 5) h (fun _ => rfl) (by decide) ?_ | refine o_iaT (enc := eTHullSection) (s := 5) h (fun _ => rfl) (by decide) ?_)
          intro _
          refine st1 ?_
          obtain ⟨_, h, hF⟩ := e_bind hF
          (first | refine o_ia (enc := eTHullHold) (s := 2) h (fun _ => rfl) (by decide) ?_ | refine o_iaT (enc := eTHullHold) (s := 2) h (fun _ => rfl) (by decide) ?_)
          intro _
          refine st1 ?_
          obtain ⟨_, h, hF⟩ := e_bind hF
          (first | refine o_app (enc := eTHullHold) (s := 2) h (fun _ => rfl) ?_ | refine o_appT (enc := eTHullHold) (s := 2) h (fun _ => rfl) ?_)
          refine st1 ?_
          exact k_loopF (e_some hF) hx2 () [(0, _), (2, _)] ⟨sT, sS, by rfl, by rfl⟩
        · refine st1 ?_
          have hF := e_some hF
          obtain ⟨_, h, hF⟩ := e_bind hF
          (first | refine o_ia (enc := eTHullSection) (s := 5) h (fun _ => rfl) (by decide) ?_ | refine o_iaT (enc := eTHullSection) (s := 5) h (fun _ => rfl) (by decide) ?_)
          intro _
          refine st1 ?_
          exact k_loopF (e_some hF) hx1 () [(0, _), (2, _)] ⟨sT, sS, by rfl, by rfl⟩
    · refine st1 ?_
      have hF := e_some hF
      have hq : some _ = some _ := hF
      cases hq
      exact en1


@[reducible] noncomputable def c_thalwegref01_In : Con := conF F_thalwegref01_In (fun x => match x with | (a0, a1, a2) => [(V.v (.int .i64 (a0))), (V.v (.int .i64 (a1))), (V.v (.int .i64 (a2)))]) (fun r => (V.v (.bool (r))))
theorem h_thalwegref01_In : Has Tryz.prog 56 c_thalwegref01_In := by
  refine hasF ctx_nil mix Tryz.func56 rfl (by kernel_rfl) ?_
  rintro ⟨a0, a1, a2⟩ r hF
  refine ⟨of_decide_eq_true rfl, ?_⟩
  refine st1 ?_
  rcases e_bif hF with ⟨hb1, hF⟩ | ⟨hb1, hF⟩ <;> (first | rw [hb1] | (conv => arg 7; rw [hb1]))
  · refine st1 ?_
    have hq : some _ = some _ := hF
    cases hq
    exact en1
  · refine st1 ?_
    have hq : some _ = some _ := hF
    cases hq
    exact en1


@[reducible] noncomputable def c_thalwegref02_Section : Con := conF F_thalwegref02_Section (fun x => match x with | (a0) => [(V.agg (eTHullSection a0))]) (fun r => (V.v (.bool (r))))
theorem fl_thalwegref02_Section_136 : flatOf Tryz.prog 9 136 = some [true, true] := by kernel_rfl
theorem eg_thalwegref02_Section_136 : Tryz.prog.eqGuardType Tryz.prog.depth 136 = false := by kernel_rfl
theorem ag_thalwegref02_Section_136 : aggOf Tryz.prog 136 = some true := by kernel_rfl
theorem h_thalwegref02_Section : Has Tryz.prog 57 c_thalwegref02_Section := by
  refine hasF (ctx_cons h_thalwegref01_In ctx_nil) mix Tryz.func57 rfl (by kernel_rfl) ?_
  rintro a0 r hF
  refine ⟨of_decide_eq_true rfl, ?_⟩
  refine st1 ?_
  obtain ⟨_, h, hF⟩ := e_bind hF
  (first | refine g_call h lv1 ?_ | refine g_callT h lv1 ?_)
  (conv => arg 1; whnf)
  refine st1 ?_
  rcases e_bif hF with ⟨hb1, hF⟩ | ⟨hb1, hF⟩ <;> (first | rw [hb1] | (conv => arg 7; rw [hb1]))
  · refine st1 ?_
    have hq : some _ = some _ := hF
    cases hq
    exact en1
  · refine st1 ?_
    obtain ⟨_, h, hF⟩ := e_bind hF
    (first | refine g_call h lv1 ?_ | refine g_callT h lv1 ?_)
    (conv => arg 1; whnf)
    refine st1 ?_
    rcases e_bif hF with ⟨hb2, hF⟩ | ⟨hb2, hF⟩ <;> (first | rw [hb2] | (conv => arg 7; rw [hb2]))
    · refine st1 ?_
      have hq : some _ = some _ := hF
      cases hq
      exact en1
    · refine st1 ?_
      obtain ⟨_, h, hF⟩ := e_bind hF
      (first | refine g_call h lv1 ?_ | refine g_callT h lv1 ?_)
      (conv => arg 1; whnf)
      refine st1 ?_
      rcases e_bif hF with ⟨hb3, hF⟩ | ⟨hb3, hF⟩ <;> (first | rw [hb3] | (conv => arg 7; rw [hb3]))
      · refine st1 ?_
        have hq : some _ = some _ := hF
        cases hq
        exact en1
      · refine st1 ?_
        obtain ⟨_, h, hF⟩ := e_bind hF
        (first | refine g_call h lv1 ?_ | refine g_callT h lv1 ?_)
        (conv => arg 1; whnf)
        refine st1 ?_
        rcases e_bif hF with ⟨hb4, hF⟩ | ⟨hb4, hF⟩ <;> (first | rw [hb4] | (conv => arg 7; rw [hb4]))
        · refine st1 ?_
          have hq : some _ = some _ := hF
          cases hq
          exact en1
        · refine st1 ?_
          refine st_loopF (e_assoc hF) () [(0, _)] ⟨sT, sS, by rfl, by rfl⟩ ?_
          · rintro n _ _ x hx1 hF
            (conv => arg 7; whnf); (conv => arg 8; whnf); (conv => arg 9; whnf)
            refine st1 ?_
            rcases e_bif hF with ⟨hb20, hF⟩ | ⟨hb20, hF⟩ <;> (first | rw [hb20] | (conv => arg 7; rw [hb20]))
            · refine st1 ?_
              obtain ⟨_, h, hF⟩ := e_bind hF
              (first | refine o_ia (enc := eTHullRow) (s := 2) h (fun _ => rfl) (by decide) ?_ | refine o_iaT (enc := eTHullRow) (s := 2) h (fun _ => rfl) (by decide) ?_)
              intro _
              refine st1 ?_
              obtain ⟨_, h, hF⟩ := e_bind hF
              (first | refine g_call h lv1 ?_ | refine g_callT h lv1 ?_)
              (conv => arg 1; whnf)
              refine st1 ?_
              rcases e_bif hF with ⟨hb21, hF⟩ | ⟨hb21, hF⟩ <;> (first | rw [hb21] | (conv => arg 7; rw [hb21]))
              · refine st1 ?_
                have hF := e_some hF
                have hq : some _ = some _ := hF
                cases hq
                exact en1
              · refine st1 ?_
                obtain ⟨_, h, hF⟩ := e_bind hF
                (first | refine o_ia (enc := eTHullRow) (s := 2) h (fun _ => rfl) (by decide) ?_ | refine o_iaT (enc := eTHullRow) (s := 2) h (fun _ => rfl) (by decide) ?_)
                intro _
                refine st1 ?_
                obtain ⟨_, h, hF⟩ := e_bind hF
                (first | refine g_call h lv1 ?_ | refine g_callT h lv1 ?_)
                (conv => arg 1; whnf)
                refine st1 ?_
                rcases e_bif hF with ⟨hb22, hF⟩ | ⟨hb22, hF⟩ <;> (first | rw [hb22] | (conv => arg 7; rw [hb22]))
                · refine st1 ?_
                  have hF := e_some hF
                  have hq : some _ = some _ := hF
                  cases hq
                  exact en1
                · refine st1 ?_
                  rcases e_bif hF with ⟨hb23, hF⟩ | ⟨hb23, hF⟩ <;> (first | rw [hb23] | (conv => arg 7; rw [hb23]))
                  · refine st1 ?_
                    obtain ⟨_, h, hF⟩ := e_bind hF
                    (first | refine o_ia (enc := eTHullRow) (s := 2) h (fun _ => rfl) (by decide) ?_ | refine o_iaT (enc := eTHullRow) (s := 2) h (fun _ => rfl) (by decide) ?_)
                    intro _
                    refine st1 ?_
                    rw [fl_thalwegref02_Section_136, eg_thalwegref02_Section_136, ag_thalwegref02_Section_136]
                    (conv => arg 1; whnf)
                    refine st1 ?_
                    rcases e_bif hF with ⟨hb24, hF⟩ | ⟨hb24, hF⟩ <;> (first | rw [hb24] | (conv => arg 7; rw [hb24]))
                    · refine st1 ?_
                      have hF := e_some hF
                      have hq : some _ = some _ := hF
                      cases hq
                      exact en1
                    · refine st1 ?_
                      rcases e_bif hF with ⟨hb25, hF⟩ | ⟨hb25, hF⟩ <;> (first | rw [hb25] | (conv => arg 7; rw [hb25]))
                      · refine st1 ?_
                        obtain ⟨_, h, hF⟩ := e_bind hF
                        (first | refine o_ia (enc := eTHullRow) (s := 2) h (fun _ => rfl) (by decide) ?_ | refine o_iaT (enc := eTHullRow) (s := 2) h (fun _ => rfl) (by decide) ?_)
                        intro _
                        refine st1 ?_
                        obtain ⟨_, h, hF⟩ := e_bind hF
                        (first | refine o_ia (enc := eTHullRow) (s := 2) h (fun _ => rfl) (by decide) ?_ | refine o_iaT (enc := eTHullRow) (s := 2) h (fun _ => rfl) (by decide) ?_)
                        intro _
                        refine st1 ?_
                        rcases e_bif hF with ⟨hb26, hF⟩ | ⟨hb26, hF⟩ <;> (first | rw [hb26] | (conv => arg 7; rw [hb26]))
                        · refine st1 ?_
                          have hF := e_some hF
                          have hq : some _ = some _ := hF
                          cases hq
                          exact en1
                        · refine st1 ?_
                          obtain ⟨_, h, hF⟩ := e_bind hF
                          (first | refine o_ia (enc := eTHullRow) (s := 2) h (fun _ => rfl) (by decide) ?_ | refine o_iaT (enc := eTHullRow) (s := 2) h (fun _ => rfl) (by decide) ?_)
                          intro _
                          refine st1 ?_
                          obtain ⟨_, h, hF⟩ := e_bind hF
                          (first | refine o_ia (enc := eTHullRow) (s := 2) h (fun _ => rfl) (by decide) ?_ | refine o_iaT (enc := eTHullRow) (s := 2) h (fun _ => rfl) (by decide) ?_)
                          intro _
                          refine st1 ?_
                          rcases e_bif hF with ⟨hb27, hF⟩ | ⟨hb27, hF⟩ <;> (first | rw [hb27] | (conv => arg 7; rw [hb27]))
                          · refine st1 ?_
                            have hF := e_some hF
                            have hq : some _ = some _ := hF
                            cases hq
                            exact en1
                          · refine st1 ?_
                            exact k_loopF (e_some hF) hx1 () [(0, _)] ⟨sT, sS, by rfl, by rfl⟩
                      · refine st1 ?_
                        exact k_loopF (e_some hF) hx1 () [(0, _)] ⟨sT, sS, by rfl, by rfl⟩
                  · refine st1 ?_
                    rcases e_bif hF with ⟨hb28, hF⟩ | ⟨hb28, hF⟩ <;> (first | rw [hb28] | (conv => arg 7; rw [hb28]))
                    · refine st1 ?_
                      obtain ⟨_, h, hF⟩ := e_bind hF
                      (first | refine o_ia (enc := eTHullRow) (s := 2) h (fun _ => rfl) (by decide) ?_ | refine o_iaT (enc := eTHullRow) (s := 2) h (fun _ => rfl) (by decide) ?_)
                      intro _
                      refine st1 ?_
                      obtain ⟨_, h, hF⟩ := e_bind hF
                      (first | refine o_ia (enc := eTHullRow) (s := 2) h (fun _ => rfl) (by decide) ?_ | refine o_iaT (enc := eTHullRow) (s := 2) h (fun _ => rfl) (by decide) ?_)
                      intro _
                      refine st1 ?_
                      rcases e_bif hF with ⟨hb29, hF⟩ | ⟨hb29, hF⟩ <;> (first | rw [hb29] | (conv => arg 7; rw [hb29]))
                      · refine st1 ?_
                        have hF := e_some hF
                        have hq : some _ = some _ := hF
                        cases hq
                        exact en1
                      · refine st1 ?_
                        obtain ⟨_, h, hF⟩ := e_bind hF
                        (first | refine o_ia (enc := eTHullRow) (s := 2) h (fun _ => rfl) (by decide) ?_ | refine o_iaT (enc := eTHullRow) (s := 2) h (fun _ => rfl) (by decide) ?_)
                        intro _
                        refine st1 ?_
                        obtain ⟨_, h, hF⟩ := e_bind hF
                        (first | refine o_ia (enc := eTHullRow) (s := 2) h (fun _ => rfl) (by decide) ?_ | refine o_iaT (enc := eTHullRow) (s := 2) h (fun _ => rfl) (by decide) ?_)
                        intro _
                        refine st1 ?_
                        rcases e_bif hF with ⟨hb30, hF⟩ | ⟨hb30, hF⟩ <;> (first | rw [hb30] | (conv => arg 7; rw [hb30]))
                        · refine st1 ?_
                          have hF := e_some hF
                          have hq : some _ = some _ := hF
                          cases hq
                          exact en1
                        · refine st1 ?_
                          exact k_loopF (e_some hF) hx1 () [(0, _)] ⟨sT, sS, by rfl, by rfl⟩
                    · refine st1 ?_
                      exact k_loopF (e_some hF) hx1 () [(0, _)] ⟨sT, sS, by rfl, by rfl⟩
            · refine st1 ?_
              have hF := e_some hF
              refine st_loopF (e_assoc hF) () [(0, _)] ⟨sT, sS, by rfl, by rfl⟩ ?_
              · rintro n _ _ x hx1 hF
                (conv => arg 7; whnf); (conv => arg 8; whnf); (conv => arg 9; whnf)
                refine st1 ?_
                rcases e_bif hF with ⟨hb37, hF⟩ | ⟨hb37, hF⟩ <;> (first | rw [hb37] | (conv => arg 7; rw [hb37]))
                · refine st1 ?_
                  obtain ⟨_, h, hF⟩ := e_bind hF
                  (first | refine o_ia (enc := eTHullHold) (s := 2) h (fun _ => rfl) (by decide) ?_ | refine o_iaT (enc := eTHullHold) (s := 2) h (fun _ => rfl) (by decide) ?_)
                  intro _
                  refine st1 ?_
                  obtain ⟨_, h, hF⟩ := e_bind hF
                  (first | refine g_call h lv1 ?_ | refine g_callT h lv1 ?_)
                  (conv => arg 1; whnf)
                  refine st1 ?_
                  rcases e_bif hF with ⟨hb38, hF⟩ | ⟨hb38, hF⟩ <;> (first | rw [hb38] | (conv => arg 7; rw [hb38]))
                  · refine st1 ?_
                    have hF := e_some hF
                    have hq : some _ = some _ := hF
                    cases hq
                    exact en1
                  · refine st1 ?_
                    obtain ⟨_, h, hF⟩ := e_bind hF
                    (first | refine o_ia (enc := eTHullHold) (s := 2) h (fun _ => rfl) (by decide) ?_ | refine o_iaT (enc := eTHullHold) (s := 2) h (fun _ => rfl) (by decide) ?_)
                    intro _
                    refine st1 ?_
                    obtain ⟨_, h, hF⟩ := e_bind hF
                    (first | refine g_call h lv1 ?_ | refine g_callT h lv1 ?_)
                    (conv => arg 1; whnf)
                    refine st1 ?_
                    rcases e_bif hF with ⟨hb39, hF⟩ | ⟨hb39, hF⟩ <;> (first | rw [hb39] | (conv => arg 7; rw [hb39]))
                    · refine st1 ?_
                      have hF := e_some hF
                      have hq : some _ = some _ := hF
                      cases hq
                      exact en1
                    · refine st1 ?_
                      exact k_loopF (e_some hF) hx1 () [(0, _)] ⟨sT, sS, by rfl, by rfl⟩
                · refine st1 ?_
                  have hF := e_some hF
                  have hq : some _ = some _ := hF
                  cases hq
                  exact en1


@[reducible] noncomputable def c_thalwegref02_Length : Con := conF F_thalwegref02_Length (fun x => match x with | (a0) => [(V.agg (eTHull a0))]) (fun r => (V.v (.int .i64 (r))))
theorem h_thalwegref02_Length : Has Tryz.prog 58 c_thalwegref02_Length := by
  refine hasF ctx_nil mix Tryz.func58 rfl (by kernel_rfl) ?_
  rintro a0 r hF
  refine ⟨of_decide_eq_true rfl, ?_⟩
  refine st1 ?_
  refine st_loopF (e_assoc hF) () [(0, _)] ⟨sT, sS, by rfl, by rfl⟩ ?_
  · rintro n ⟨_, _⟩ _ x hx1 hF
    (conv => arg 7; whnf); (conv => arg 8; whnf); (conv => arg 9; whnf)
    refine st1 ?_
    rcases e_bif hF with ⟨hb3, hF⟩ | ⟨hb3, hF⟩ <;> (first | rw [hb3] | (conv => arg 7; rw [hb3]))
    · refine st1 ?_
      obtain ⟨_, h, hF⟩ := e_bind hF
      (first | refine o_ia (enc := eTHullSection) (s := 5) h (fun _ => rfl) (by decide) ?_ | refine o_iaT (enc := eTHullSection) (s := 5) h (fun _ => rfl) (by decide) ?_)
      intro _
      refine st1 ?_
      exact k_loopF (e_some hF) hx1 () [(0, _)] ⟨sT, sS, by rfl, by rfl⟩
    · refine st1 ?_
      have hF := e_some hF
      have hq : some _ = some _ := hF
      cases hq
      exact en1


@[reducible] noncomputable def c_thalwegref02_Hull : Con := conF F_thalwegref02_Hull (fun x => match x with | (a0) => [(V.agg (eTHull a0))]) (fun r => (V.v (.bool (r))))
theorem h_thalwegref02_Hull : Has Tryz.prog 18 c_thalwegref02_Hull := by
  refine hasF (ctx_cons h_thalwegref02_Length (ctx_cons h_thalwegref02_Section (ctx_cons h_thalwegref01_In (ctx_cons h_thalwegref02_Holds ctx_nil)))) mix Tryz.func18 rfl (by kernel_rfl) ?_
  rintro a0 r hF
  refine ⟨of_decide_eq_true rfl, ?_⟩
  refine st1 ?_
  obtain ⟨_, h, hF⟩ := e_bind hF
  (first | refine g_call h lv1 ?_ | refine g_callT h lv1 ?_)
  (conv => arg 1; whnf)
  refine st1 ?_
  rcases e_bif hF with ⟨hb1, hF⟩ | ⟨hb1, hF⟩ <;> (first | rw [hb1] | (conv => arg 7; rw [hb1]))
  · refine st1 ?_
    have hq : some _ = some _ := hF
    cases hq
    exact en1
  · refine st1 ?_
    obtain ⟨_, h, hF⟩ := e_bind hF
    (first | refine g_call h lv1 ?_ | refine g_callT h lv1 ?_)
    (conv => arg 1; whnf)
    refine st1 ?_
    rcases e_bif hF with ⟨hb2, hF⟩ | ⟨hb2, hF⟩ <;> (first | rw [hb2] | (conv => arg 7; rw [hb2]))
    · refine st1 ?_
      have hq : some _ = some _ := hF
      cases hq
      exact en1
    · refine st1 ?_
      refine st_loopF (e_assoc hF) () [(0, _)] ⟨sT, sS, by rfl, by rfl⟩ ?_
      · rintro n _ _ x hx1 hF
        (conv => arg 7; whnf); (conv => arg 8; whnf); (conv => arg 9; whnf)
        refine st1 ?_
        rcases e_bif hF with ⟨hb7, hF⟩ | ⟨hb7, hF⟩ <;> (first | rw [hb7] | (conv => arg 7; rw [hb7]))
        · refine st1 ?_
          obtain ⟨_, h, hF⟩ := e_bind hF
          (first | refine o_ia (enc := eTHullSection) (s := 5) h (fun _ => rfl) (by decide) ?_ | refine o_iaT (enc := eTHullSection) (s := 5) h (fun _ => rfl) (by decide) ?_)
          intro _
          refine st1 ?_
          obtain ⟨_, h, hF⟩ := e_bind hF
          (first | refine g_call h lv1 ?_ | refine g_callT h lv1 ?_)
          (conv => arg 1; whnf)
          refine st1 ?_
          rcases e_bif hF with ⟨hb8, hF⟩ | ⟨hb8, hF⟩ <;> (first | rw [hb8] | (conv => arg 7; rw [hb8]))
          · refine st1 ?_
            have hF := e_some hF
            have hq : some _ = some _ := hF
            cases hq
            exact en1
          · refine st1 ?_
            exact k_loopF (e_some hF) hx1 () [(0, _)] ⟨sT, sS, by rfl, by rfl⟩
        · refine st1 ?_
          have hF := e_some hF
          obtain ⟨_, h, hF⟩ := e_bind hF
          (first | refine g_call h lv1 ?_ | refine g_callT h lv1 ?_)
          (conv => arg 1; whnf)
          refine st1 ?_
          rcases e_bif hF with ⟨hb9, hF⟩ | ⟨hb9, hF⟩ <;> (first | rw [hb9] | (conv => arg 7; rw [hb9]))
          · refine st1 ?_
            obtain ⟨_, h, hF⟩ := e_bind hF
            (first | refine g_call h lv1 ?_ | refine g_callT h lv1 ?_)
            (conv => arg 1; whnf)
            refine st1 ?_
            have hq : some _ = some _ := hF
            cases hq
            exact en1
          · refine st1 ?_
            have hq : some _ = some _ := hF
            cases hq
            exact en1


@[reducible] noncomputable def c_thalwegref02_Limit : Con := conF F_thalwegref02_Limit (fun x => match x with | (a0) => [(V.agg (eTHull a0))]) (fun r => (V.v (.int .i64 (r))))
theorem h_thalwegref02_Limit : Has Tryz.prog 19 c_thalwegref02_Limit := by
  refine hasF ctx_nil mix Tryz.func19 rfl (by kernel_rfl) ?_
  rintro a0 r hF
  refine ⟨of_decide_eq_true rfl, ?_⟩
  refine st1 ?_
  refine st_loopF (e_assoc hF) () [(0, _)] ⟨sT, sS, by rfl, by rfl⟩ ?_
  · rintro n ⟨_, _⟩ _ x hx1 hF
    (conv => arg 7; whnf); (conv => arg 8; whnf); (conv => arg 9; whnf)
    refine st1 ?_
    rcases e_bif hF with ⟨hb3, hF⟩ | ⟨hb3, hF⟩ <;> (first | rw [hb3] | (conv => arg 7; rw [hb3]))
    · refine st1 ?_
      obtain ⟨_, h, hF⟩ := e_bind hF
      (first | refine o_ia (enc := eTHullSection) (s := 5) h (fun _ => rfl) (by decide) ?_ | refine o_iaT (enc := eTHullSection) (s := 5) h (fun _ => rfl) (by decide) ?_)
      intro _
      refine st1 ?_
      obtain ⟨_, h, hF⟩ := e_bind hF
      (first | refine o_ia (enc := eTHullRow) (s := 2) h (fun _ => rfl) (by decide) ?_ | refine o_iaT (enc := eTHullRow) (s := 2) h (fun _ => rfl) (by decide) ?_)
      intro _
      refine st1 ?_
      exact k_loopF (e_some hF) hx1 () [(0, _)] ⟨sT, sS, by rfl, by rfl⟩
    · refine st1 ?_
      have hF := e_some hF
      have hq : some _ = some _ := hF
      cases hq
      exact en1


@[reducible] noncomputable def c_thalwegref02_Volume : Con := conF F_thalwegref02_Volume (fun x => match x with | (a0, a1) => [(V.agg (eTHull a0)), (V.v (.int .i64 (a1)))]) (fun r => (V.v (.int .i64 (r))))
theorem h_thalwegref02_Volume : Has Tryz.prog 20 c_thalwegref02_Volume := by
  refine hasF ctx_nil mix Tryz.func20 rfl (by kernel_rfl) ?_
  rintro ⟨a0, a1⟩ r hF
  refine ⟨of_decide_eq_true rfl, ?_⟩
  refine st1 ?_
  refine st_loopF (e_assoc hF) () [(0, _)] ⟨sT, sS, by rfl, by rfl⟩ ?_
  · rintro n ⟨_, _⟩ _ x hx1 hF
    (conv => arg 7; whnf); (conv => arg 8; whnf); (conv => arg 9; whnf)
    refine st1 ?_
    rcases e_bif hF with ⟨hb9, hF⟩ | ⟨hb9, hF⟩ <;> (first | rw [hb9] | (conv => arg 7; rw [hb9]))
    · refine st1 ?_
      obtain ⟨_, h, hF⟩ := e_bind hF
      (first | refine o_ia (enc := eTHullSection) (s := 5) h (fun _ => rfl) (by decide) ?_ | refine o_iaT (enc := eTHullSection) (s := 5) h (fun _ => rfl) (by decide) ?_)
      intro _
      refine st1 ?_
      refine st_loopF (e_assoc hF) () [(0, _)] ⟨sT, sS, by rfl, by rfl⟩ ?_
      · rintro n _ _ x hx2 hF
        (conv => arg 7; whnf); (conv => arg 8; whnf); (conv => arg 9; whnf)
        refine st1 ?_
        obtain ⟨_, h, hF⟩ := e_bind hF
        (first | refine o_ia (enc := eTHullRow) (s := 2) h (fun _ => rfl) (by decide) ?_ | refine o_iaT (enc := eTHullRow) (s := 2) h (fun _ => rfl) (by decide) ?_)
        intro _
        refine st1 ?_
        rcases e_bif hF with ⟨hb12, hF⟩ | ⟨hb12, hF⟩ <;> (first | rw [hb12] | (conv => arg 7; rw [hb12]))
        · refine st1 ?_
          exact k_loopF (e_some hF) hx2 () [(0, _)] ⟨sT, sS, by rfl, by rfl⟩
        · refine st1 ?_
          have hF := e_some hF
          obtain ⟨_, h, hF⟩ := e_bind hF
          (first | refine o_ia (enc := eTHullRow) (s := 2) h (fun _ => rfl) (by decide) ?_ | refine o_iaT (enc := eTHullRow) (s := 2) h (fun _ => rfl) (by decide) ?_)
          intro _
          refine st1 ?_
          obtain ⟨_, h, hF⟩ := e_bind hF
          (first | refine o_ia (enc := eTHullRow) (s := 2) h (fun _ => rfl) (by decide) ?_ | refine o_iaT (enc := eTHullRow) (s := 2) h (fun _ => rfl) (by decide) ?_)
          intro _
          refine st1 ?_
          obtain ⟨_, h, hF⟩ := e_bind hF
          (first | refine go_req (nz_ne h) ?_ | refine goT_req (nz_ne h) ?_)
          (conv => arg 1; whnf)
          refine st1 ?_
          exact k_loopF (e_some hF) hx1 () [(0, _)] ⟨sT, sS, by rfl, by rfl⟩
    · refine st1 ?_
      have hF := e_some hF
      have hq : some _ = some _ := hF
      cases hq
      exact en1


@[reducible] noncomputable def c_thalwegref01_Valid : Con := conF F_thalwegref01_Valid (fun x => match x with | (a0, a1, a2) => [(V.agg (eTBounds a0)), (V.v (.int .i64 (a1))), (V.v (.int .i64 (a2)))]) (fun r => (V.v (.bool (r))))
theorem h_thalwegref01_Valid : Has Tryz.prog 71 c_thalwegref01_Valid := by
  refine hasF (ctx_cons h_thalwegref01_In ctx_nil) mix Tryz.func71 rfl (by kernel_rfl) ?_
  rintro ⟨a0, a1, a2⟩ r hF
  refine ⟨of_decide_eq_true rfl, ?_⟩
  refine st1 ?_
  obtain ⟨_, h, hF⟩ := e_bind hF
  (first | refine g_call h lv1 ?_ | refine g_callT h lv1 ?_)
  (conv => arg 1; whnf)
  refine st1 ?_
  rcases e_bif hF with ⟨hb1, hF⟩ | ⟨hb1, hF⟩ <;> (first | rw [hb1] | (conv => arg 7; rw [hb1]))
  · refine st1 ?_
    obtain ⟨_, h, hF⟩ := e_bind hF
    (first | refine g_call h lv1 ?_ | refine g_callT h lv1 ?_)
    (conv => arg 1; whnf)
    refine st1 ?_
    have hq : some _ = some _ := hF
    cases hq
    exact en1
  · refine st1 ?_
    have hq : some _ = some _ := hF
    cases hq
    exact en1


@[reducible] noncomputable def c_thalwegref02_Density : Con := conF F_thalwegref02_Density (fun x => match x with | (a0) => [(V.agg (eTBounds a0))]) (fun r => (V.v (.bool (r))))
theorem h_thalwegref02_Density : Has Tryz.prog 33 c_thalwegref02_Density := by
  refine hasF (ctx_cons h_thalwegref01_Valid ctx_nil) mix Tryz.func33 rfl (by kernel_rfl) ?_
  rintro a0 r hF
  refine ⟨of_decide_eq_true rfl, ?_⟩
  refine st1 ?_
  obtain ⟨_, h, hF⟩ := e_bind hF
  (first | refine g_call h lv1 ?_ | refine g_callT h lv1 ?_)
  (conv => arg 1; whnf)
  refine st1 ?_
  have hq : some _ = some _ := hF
  cases hq
  exact en1


@[reducible] noncomputable def c_thalwegref02_Load : Con := conF F_thalwegref02_Load (fun x => match x with | (a0, a1, a2) => [(V.agg (eTHull a0)), (V.sl (recs (eI .i64) (a1)) (a1).length), (V.agg (eTBounds a2))]) (fun r => (V.v (.int .i64 (r))))
theorem h_thalwegref02_Load : Has Tryz.prog 21 c_thalwegref02_Load := by
  refine hasF (ctx_cons h_thalwegref01_In (ctx_cons h_thalwegref02_Density (ctx_cons h_thalwegref02_Holds (ctx_cons h_thalwegref02_Hull ctx_nil)))) mix Tryz.func21 rfl (by kernel_rfl) ?_
  rintro ⟨a0, a1, a2⟩ r hF
  refine ⟨of_decide_eq_true rfl, ?_⟩
  refine st1 ?_
  obtain ⟨_, h, hF⟩ := e_bind hF
  (first | refine g_call h lv1 ?_ | refine g_callT h lv1 ?_)
  (conv => arg 1; whnf)
  refine st1 ?_
  rcases e_bif hF with ⟨hb1, hF⟩ | ⟨hb1, hF⟩ <;> (first | rw [hb1] | (conv => arg 7; rw [hb1]))
  · refine st1 ?_
    have hq : some _ = some _ := hF
    cases hq
    exact en1
  · refine st1 ?_
    obtain ⟨_, h, hF⟩ := e_bind hF
    (first | refine g_call h lv1 ?_ | refine g_callT h lv1 ?_)
    (conv => arg 1; whnf)
    refine st1 ?_
    rcases e_bif hF with ⟨hb2, hF⟩ | ⟨hb2, hF⟩ <;> (first | rw [hb2] | (conv => arg 7; rw [hb2]))
    · refine st1 ?_
      have hq : some _ = some _ := hF
      cases hq
      exact en1
    · refine st1 ?_
      refine st_loopF (e_assoc hF) () [(1, _)] ⟨sT, sS, by rfl, by rfl⟩ ?_
      · rintro n _ _ x hx1 hF
        (conv => arg 7; whnf); (conv => arg 8; whnf); (conv => arg 9; whnf)
        refine st1 ?_
        rcases e_bif hF with ⟨hb7, hF⟩ | ⟨hb7, hF⟩ <;> (first | rw [hb7] | (conv => arg 7; rw [hb7]))
        · refine st1 ?_
          obtain ⟨_, h, hF⟩ := e_bind hF
          (first | refine o_ia (enc := (eI .i64)) (s := 1) h (fun _ => rfl) (by decide) ?_ | refine o_iaT (enc := (eI .i64)) (s := 1) h (fun _ => rfl) (by decide) ?_)
          intro _
          refine st1 ?_
          obtain ⟨_, h, hF⟩ := e_bind hF
          (first | refine o_ia (enc := eTHullHold) (s := 2) h (fun _ => rfl) (by decide) ?_ | refine o_iaT (enc := eTHullHold) (s := 2) h (fun _ => rfl) (by decide) ?_)
          intro _
          refine st1 ?_
          obtain ⟨_, h, hF⟩ := e_bind hF
          (first | refine g_call h lv1 ?_ | refine g_callT h lv1 ?_)
          (conv => arg 1; whnf)
          refine st1 ?_
          rcases e_bif hF with ⟨hb8, hF⟩ | ⟨hb8, hF⟩ <;> (first | rw [hb8] | (conv => arg 7; rw [hb8]))
          · refine st1 ?_
            have hF := e_some hF
            have hq : some _ = some _ := hF
            cases hq
            exact en1
          · refine st1 ?_
            exact k_loopF (e_some hF) hx1 () [(1, _)] ⟨sT, sS, by rfl, by rfl⟩
        · refine st1 ?_
          have hF := e_some hF
          obtain ⟨_, h, hF⟩ := e_bind hF
          (first | refine g_call h lv1 ?_ | refine g_callT h lv1 ?_)
          (conv => arg 1; whnf)
          refine st1 ?_
          rcases e_bif hF with ⟨hb9, hF⟩ | ⟨hb9, hF⟩ <;> (first | rw [hb9] | (conv => arg 7; rw [hb9]))
          · refine st1 ?_
            have hq : some _ = some _ := hF
            cases hq
            exact en1
          · refine st1 ?_
            have hq : some _ = some _ := hF
            cases hq
            exact en1


@[reducible] noncomputable def c_thalwegref01_Ceil : Con := conF F_thalwegref01_Ceil (fun x => match x with | (a0, a1) => [(V.v (.int .i64 (a0))), (V.v (.int .i64 (a1)))]) (fun r => (V.v (.int .i64 (r))))
theorem h_thalwegref01_Ceil : Has Tryz.prog 97 c_thalwegref01_Ceil := by
  refine hasF ctx_nil mix Tryz.func97 rfl (by kernel_rfl) ?_
  rintro ⟨a0, a1⟩ r hF
  refine ⟨of_decide_eq_true rfl, ?_⟩
  refine st1 ?_
  obtain ⟨_, h, hF⟩ := e_bind hF
  (first | refine go_req (nz_ne h) ?_ | refine goT_req (nz_ne h) ?_)
  (conv => arg 1; whnf)
  refine st1 ?_
  rcases e_bif hF with ⟨hb1, hF⟩ | ⟨hb1, hF⟩ <;> (first | rw [hb1] | (conv => arg 7; rw [hb1]))
  · refine st1 ?_
    have hq : some _ = some _ := hF
    cases hq
    exact en1
  · refine st1 ?_
    have hq : some _ = some _ := hF
    cases hq
    exact en1


@[reducible] noncomputable def c_thalwegref02_Mass : Con := conF F_thalwegref02_Mass (fun x => match x with | (a0, a1) => [(V.agg (eTHull a0)), (V.sl (recs (eI .i64) (a1)) (a1).length)]) (fun r => (V.v (.int .i64 (r))))
theorem h_thalwegref02_Mass : Has Tryz.prog 98 c_thalwegref02_Mass := by
  refine hasF ctx_nil mix Tryz.func98 rfl (by kernel_rfl) ?_
  rintro ⟨a0, a1⟩ r hF
  refine ⟨of_decide_eq_true rfl, ?_⟩
  refine st1 ?_
  refine st_loopF (e_assoc hF) () [(0, _)] ⟨sT, sS, by rfl, by rfl⟩ ?_
  · rintro n ⟨_, _⟩ _ x hx1 hF
    (conv => arg 7; whnf); (conv => arg 8; whnf); (conv => arg 9; whnf)
    refine st1 ?_
    rcases e_bif hF with ⟨hb3, hF⟩ | ⟨hb3, hF⟩ <;> (first | rw [hb3] | (conv => arg 7; rw [hb3]))
    · refine st1 ?_
      obtain ⟨_, h, hF⟩ := e_bind hF
      (first | refine o_ia (enc := eTHullSection) (s := 5) h (fun _ => rfl) (by decide) ?_ | refine o_iaT (enc := eTHullSection) (s := 5) h (fun _ => rfl) (by decide) ?_)
      intro _
      refine st1 ?_
      exact k_loopF (e_some hF) hx1 () [(0, _)] ⟨sT, sS, by rfl, by rfl⟩
    · refine st1 ?_
      have hF := e_some hF
      refine st_loopF (e_assoc hF) () [(0, _)] ⟨sT, sS, by rfl, by rfl⟩ ?_
      · rintro n ⟨_, _⟩ _ x hx1 hF
        (conv => arg 7; whnf); (conv => arg 8; whnf); (conv => arg 9; whnf)
        refine st1 ?_
        rcases e_bif hF with ⟨hb6, hF⟩ | ⟨hb6, hF⟩ <;> (first | rw [hb6] | (conv => arg 7; rw [hb6]))
        · refine st1 ?_
          obtain ⟨_, h, hF⟩ := e_bind hF
          (first | refine o_ia (enc := (eI .i64)) (s := 1) h (fun _ => rfl) (by decide) ?_ | refine o_iaT (enc := (eI .i64)) (s := 1) h (fun _ => rfl) (by decide) ?_)
          intro _
          refine st1 ?_
          exact k_loopF (e_some hF) hx1 () [(0, _)] ⟨sT, sS, by rfl, by rfl⟩
        · refine st1 ?_
          have hF := e_some hF
          have hq : some _ = some _ := hF
          cases hq
          exact en1


@[reducible] noncomputable def c_thalwegref02_Mean : Con := conF F_thalwegref02_Mean (fun x => match x with | (a0, a1, a2) => [(V.agg (eTHull a0)), (V.sl (recs (eI .i64) (a1)) (a1).length), (V.v (.int .i64 (a2)))]) (fun r => (V.v (.int .i64 (r))))
theorem h_thalwegref02_Mean : Has Tryz.prog 59 c_thalwegref02_Mean := by
  refine hasF (ctx_cons h_thalwegref02_Mass (ctx_cons h_thalwegref01_Ceil (ctx_cons h_thalwegref02_Volume (ctx_cons h_thalwegref02_Limit ctx_nil)))) mix Tryz.func59 rfl (by kernel_rfl) ?_
  rintro ⟨a0, a1, a2⟩ r hF
  refine ⟨of_decide_eq_true rfl, ?_⟩
  refine st1 ?_
  obtain ⟨_, h, hF⟩ := e_bind hF
  (first | refine g_call h lv1 ?_ | refine g_callT h lv1 ?_)
  (conv => arg 1; whnf)
  refine st1 ?_
  obtain ⟨_, h, hF⟩ := e_bind hF
  (first | refine g_call h lv1 ?_ | refine g_callT h lv1 ?_)
  (conv => arg 1; whnf)
  refine st1 ?_
  refine st_loopF (e_assoc hF) () [(0, _)] ⟨sT, sS, by rfl, by rfl⟩ ?_
  · rintro n _ _ x hx1 hF
    (conv => arg 7; whnf); (conv => arg 8; whnf); (conv => arg 9; whnf)
    refine st1 ?_
    obtain ⟨_, h, hF⟩ := e_bind hF
    (first | refine g_call h lv1 ?_ | refine g_callT h lv1 ?_)
    (conv => arg 1; whnf)
    refine st1 ?_
    rcases e_bif hF with ⟨hb5, hF⟩ | ⟨hb5, hF⟩ <;> (first | rw [hb5] | (conv => arg 7; rw [hb5]))
    · refine st1 ?_
      obtain ⟨_, h, hF⟩ := e_bind hF
      (first | refine g_call h lv1 ?_ | refine g_callT h lv1 ?_)
      (conv => arg 1; whnf)
      refine st1 ?_
      rcases e_bif hF with ⟨hb6, hF⟩ | ⟨hb6, hF⟩ <;> (first | rw [hb6] | (conv => arg 7; rw [hb6]))
      · refine st1 ?_
        have hF := e_some hF
        have hq : some _ = some _ := hF
        cases hq
        exact en1
      · refine st1 ?_
        exact k_loopF (e_some hF) hx1 () [(0, _)] ⟨sT, sS, by rfl, by rfl⟩
    · refine st1 ?_
      have hF := e_some hF
      have hq : some _ = some _ := hF
      cases hq
      exact en1


@[reducible] noncomputable def c_thalwegref02_Moment : Con := conF F_thalwegref02_Moment (fun x => match x with | (a0, a1) => [(V.agg (eTHull a0)), (V.sl (recs (eI .i64) (a1)) (a1).length)]) (fun r => (V.v (.int .i64 (r))))
theorem h_thalwegref02_Moment : Has Tryz.prog 61 c_thalwegref02_Moment := by
  refine hasF (ctx_cons h_thalwegref02_Length (ctx_cons h_thalwegref02_Holds ctx_nil)) mix Tryz.func61 rfl (by kernel_rfl) ?_
  rintro ⟨a0, a1⟩ r hF
  refine ⟨of_decide_eq_true rfl, ?_⟩
  refine st1 ?_
  obtain ⟨_, h, hF⟩ := e_bind hF
  (first | refine g_call h lv1 ?_ | refine g_callT h lv1 ?_)
  (conv => arg 1; whnf)
  refine st1 ?_
  obtain ⟨_, h, hF⟩ := e_bind hF
  (first | refine g_call h lv1 ?_ | refine g_callT h lv1 ?_)
  (conv => arg 1; whnf)
  refine st1 ?_
  refine st_loopF (e_assoc hF) () [(0, _)] ⟨sT, sS, by rfl, by rfl⟩ ?_
  · rintro n ⟨_, _, _⟩ _ x hx1 hF
    (conv => arg 7; whnf); (conv => arg 8; whnf); (conv => arg 9; whnf)
    refine st1 ?_
    rcases e_bif hF with ⟨hb3, hF⟩ | ⟨hb3, hF⟩ <;> (first | rw [hb3] | (conv => arg 7; rw [hb3]))
    · refine st1 ?_
      obtain ⟨_, h, hF⟩ := e_bind hF
      (first | refine o_ia (enc := eTHullSection) (s := 5) h (fun _ => rfl) (by decide) ?_ | refine o_iaT (enc := eTHullSection) (s := 5) h (fun _ => rfl) (by decide) ?_)
      intro _
      refine st1 ?_
      exact k_loopF (e_some hF) hx1 () [(0, _)] ⟨sT, sS, by rfl, by rfl⟩
    · refine st1 ?_
      have hF := e_some hF
      refine st_loopF (e_assoc hF) () [(0, _)] ⟨sT, sS, by rfl, by rfl⟩ ?_
      · rintro n ⟨_, _⟩ _ x hx1 hF
        (conv => arg 7; whnf); (conv => arg 8; whnf); (conv => arg 9; whnf)
        refine st1 ?_
        rcases e_bif hF with ⟨hb6, hF⟩ | ⟨hb6, hF⟩ <;> (first | rw [hb6] | (conv => arg 7; rw [hb6]))
        · refine st1 ?_
          obtain ⟨_, h, hF⟩ := e_bind hF
          (first | refine o_ia (enc := (eI .i64)) (s := 1) h (fun _ => rfl) (by decide) ?_ | refine o_iaT (enc := (eI .i64)) (s := 1) h (fun _ => rfl) (by decide) ?_)
          intro _
          refine st1 ?_
          obtain ⟨_, h, hF⟩ := e_bind hF
          (first | refine o_ia (enc := eTHullHold) (s := 2) h (fun _ => rfl) (by decide) ?_ | refine o_iaT (enc := eTHullHold) (s := 2) h (fun _ => rfl) (by decide) ?_)
          intro _
          refine st1 ?_
          exact k_loopF (e_some hF) hx1 () [(0, _)] ⟨sT, sS, by rfl, by rfl⟩
        · refine st1 ?_
          have hF := e_some hF
          have hq : some _ = some _ := hF
          cases hq
          exact en1


@[reducible] noncomputable def c_thalwegref02_Trim : Con := conF F_thalwegref02_Trim (fun x => match x with | (a0, a1) => [(V.agg (eTHull a0)), (V.sl (recs (eI .i64) (a1)) (a1).length)]) (fun r => (V.v (.int .i64 (r))))
theorem h_thalwegref02_Trim : Has Tryz.prog 60 c_thalwegref02_Trim := by
  refine hasF (ctx_cons h_thalwegref01_Ceil (ctx_cons h_thalwegref02_Moment ctx_nil)) mix Tryz.func60 rfl (by kernel_rfl) ?_
  rintro ⟨a0, a1⟩ r hF
  refine ⟨of_decide_eq_true rfl, ?_⟩
  refine st1 ?_
  obtain ⟨_, h, hF⟩ := e_bind hF
  (first | refine g_call h lv1 ?_ | refine g_callT h lv1 ?_)
  (conv => arg 1; whnf)
  refine st1 ?_
  refine st_loopF (e_assoc hF) () [(0, _)] ⟨sT, sS, by rfl, by rfl⟩ ?_
  · rintro n ⟨_, _⟩ _ x hx1 hF
    (conv => arg 7; whnf); (conv => arg 8; whnf); (conv => arg 9; whnf)
    refine st1 ?_
    rcases e_bif hF with ⟨hb3, hF⟩ | ⟨hb3, hF⟩ <;> (first | rw [hb3] | (conv => arg 7; rw [hb3]))
    · refine st1 ?_
      obtain ⟨_, h, hF⟩ := e_bind hF
      (first | refine o_ia (enc := eTHullSection) (s := 5) h (fun _ => rfl) (by decide) ?_ | refine o_iaT (enc := eTHullSection) (s := 5) h (fun _ => rfl) (by decide) ?_)
      intro _
      refine st1 ?_
      exact k_loopF (e_some hF) hx1 () [(0, _)] ⟨sT, sS, by rfl, by rfl⟩
    · refine st1 ?_
      have hF := e_some hF
      obtain ⟨_, h, hF⟩ := e_bind hF
      (first | refine g_call h lv1 ?_ | refine g_callT h lv1 ?_)
      (conv => arg 1; whnf)
      refine st1 ?_
      have hq : some _ = some _ := hF
      cases hq
      exact en1


@[reducible] noncomputable def c_thalwegref02_Float : Con := conF F_thalwegref02_Float (fun x => match x with | (a0, a1, a2) => [(V.agg (eTHull a0)), (V.sl (recs (eI .i64) (a1)) (a1).length), (V.agg (eTBounds a2))]) (fun r => V.tup [(V.agg (eTHullFloat r.1)), (V.v (.bool (r.2)))])
theorem h_thalwegref02_Float : Has Tryz.prog 22 c_thalwegref02_Float := by
  refine hasF (ctx_cons h_thalwegref02_Moment (ctx_cons h_thalwegref02_Trim (ctx_cons h_thalwegref02_Mean (ctx_cons h_thalwegref02_Limit ctx_nil)))) mix Tryz.func22 rfl (by kernel_rfl) ?_
  rintro ⟨a0, a1, a2⟩ r hF
  refine ⟨of_decide_eq_true rfl, ?_⟩
  refine st1 ?_
  obtain ⟨_, h, hF⟩ := e_bind hF
  (first | refine g_call h lv1 ?_ | refine g_callT h lv1 ?_)
  (conv => arg 1; whnf)
  refine st1 ?_
  obtain ⟨_, h, hF⟩ := e_bind hF
  (first | refine g_call h lv1 ?_ | refine g_callT h lv1 ?_)
  (conv => arg 1; whnf)
  refine st1 ?_
  obtain ⟨_, h, hF⟩ := e_bind hF
  (first | refine g_call h lv1 ?_ | refine g_callT h lv1 ?_)
  (conv => arg 1; whnf)
  refine st1 ?_
  obtain ⟨_, h, hF⟩ := e_bind hF
  (first | refine g_call h lv1 ?_ | refine g_callT h lv1 ?_)
  (conv => arg 1; whnf)
  refine st1 ?_
  rcases e_bif hF with ⟨hb1, hF⟩ | ⟨hb1, hF⟩ <;> (first | rw [hb1] | (conv => arg 7; rw [hb1]))
  · refine st1 ?_
    have hq : some _ = some _ := hF
    cases hq
    exact en1
  · refine st1 ?_
    obtain ⟨_, h, hF⟩ := e_bind hF
    (first | refine g_call h lv1 ?_ | refine g_callT h lv1 ?_)
    (conv => arg 1; whnf)
    refine st1 ?_
    rcases e_bif hF with ⟨hb2, hF⟩ | ⟨hb2, hF⟩ <;> (first | rw [hb2] | (conv => arg 7; rw [hb2]))
    · refine st1 ?_
      have hq : some _ = some _ := hF
      cases hq
      exact en1
    · refine st1 ?_
      rcases e_bif hF with ⟨hb3, hF⟩ | ⟨hb3, hF⟩ <;> (first | rw [hb3] | (conv => arg 7; rw [hb3]))
      · refine st1 ?_
        rcases e_bif hF with ⟨hb4, hF⟩ | ⟨hb4, hF⟩ <;> (first | rw [hb4] | (conv => arg 7; rw [hb4]))
        · refine st1 ?_
          have hq : some _ = some _ := hF
          cases hq
          exact en1
        · refine st1 ?_
          have hq : some _ = some _ := hF
          cases hq
          exact en1
      · refine st1 ?_
        rcases e_bif hF with ⟨hb5, hF⟩ | ⟨hb5, hF⟩ <;> (first | rw [hb5] | (conv => arg 7; rw [hb5]))
        · refine st1 ?_
          have hq : some _ = some _ := hF
          cases hq
          exact en1
        · refine st1 ?_
          have hq : some _ = some _ := hF
          cases hq
          exact en1


@[reducible] noncomputable def c_thalweglaw02_HullFloats : Con := conF F_thalweglaw02_HullFloats (fun x => match x with | (a0, a1) => [(V.agg (eTthalweglaw02_Loaded a0)), (V.v (.int .i64 (a1)))]) (fun r => (V.v (.bool (r))))
theorem fl_thalweglaw02_HullFloats_39 : flatOf Tryz.prog 9 39 = some [true, true, true, true, true] := by kernel_rfl
theorem eg_thalweglaw02_HullFloats_39 : Tryz.prog.eqGuardType Tryz.prog.depth 39 = false := by kernel_rfl
theorem ag_thalweglaw02_HullFloats_39 : aggOf Tryz.prog 39 = some true := by kernel_rfl
theorem h_thalweglaw02_HullFloats : Has Tryz.prog 3 c_thalweglaw02_HullFloats := by
  refine hasF (ctx_cons h_thalwegref02_Float (ctx_cons h_thalwegref02_Load (ctx_cons h_thalwegref02_Volume (ctx_cons h_thalwegref02_Limit (ctx_cons h_thalwegref02_Hull (ctx_cons h_thalweglaw02_equal (ctx_cons h_thalweglaw02_same (ctx_cons h_hull_Float (ctx_cons h_hull_Volume (ctx_cons h_hull_Check (ctx_cons h_thalweglaw02_numbers (ctx_cons h_thalweglaw02_own (ctx_cons h_thalweglaw02_known (ctx_cons h_thalweglaw02_great ctx_nil)))))))))))))) mix Tryz.func3 rfl (by kernel_rfl) ?_
  rintro ⟨a0, a1⟩ r hF
  refine ⟨of_decide_eq_true rfl, ?_⟩
  refine st1 ?_
  obtain ⟨_, h, hF⟩ := e_bind hF
  (first | refine g_call h lv1 ?_ | refine g_callT h lv1 ?_)
  (conv => arg 1; whnf)
  refine st1 ?_
  rcases e_bif hF with ⟨hb1, hF⟩ | ⟨hb1, hF⟩ <;> (first | rw [hb1] | (conv => arg 7; rw [hb1]))
  · refine st1 ?_
    obtain ⟨_, h, hF⟩ := e_bind hF
    (first | refine g_call h lv1 ?_ | refine g_callT h lv1 ?_)
    (conv => arg 1; whnf)
    refine st1 ?_
    have hq : some _ = some _ := hF
    cases hq
    exact en1
  · refine st1 ?_
    rcases e_bif hF with ⟨hb2, hF⟩ | ⟨hb2, hF⟩ <;> (first | rw [hb2] | (conv => arg 7; rw [hb2]))
    · refine st1 ?_
      obtain ⟨_, h, hF⟩ := e_bind hF
      (first | refine g_call h lv1 ?_ | refine g_callT h lv1 ?_)
      (conv => arg 1; whnf)
      refine st1 ?_
      have hq : some _ = some _ := hF
      cases hq
      exact en1
    · refine st1 ?_
      obtain ⟨_, h, hF⟩ := e_bind hF
      (first | refine g_call h lv1 ?_ | refine g_callT h lv1 ?_)
      (conv => arg 1; whnf)
      refine st1 ?_
      obtain ⟨_, h, hF⟩ := e_bind hF
      (first | refine g_call h lv1 ?_ | refine g_callT h lv1 ?_)
      (conv => arg 1; whnf)
      refine st1 ?_
      obtain ⟨_, h, hF⟩ := e_bind hF
      (first | refine g_call h lv1 ?_ | refine g_callT h lv1 ?_)
      (conv => arg 1; whnf)
      refine st1 ?_
      obtain ⟨_, h, hF⟩ := e_bind hF
      (first | refine g_call h lv1 ?_ | refine g_callT h lv1 ?_)
      (conv => arg 1; whnf)
      refine st1 ?_
      obtain ⟨_, h, hF⟩ := e_bind hF
      (first | refine g_call h lv1 ?_ | refine g_callT h lv1 ?_)
      (conv => arg 1; whnf)
      refine st1 ?_
      obtain ⟨_, h, hF⟩ := e_bind hF
      (first | refine g_call h lv1 ?_ | refine g_callT h lv1 ?_)
      (conv => arg 1; whnf)
      refine st1 ?_
      rcases e_bif hF with ⟨hb3, hF⟩ | ⟨hb3, hF⟩ <;> (first | rw [hb3] | (conv => arg 7; rw [hb3]))
      · refine st1 ?_
        have hq : some _ = some _ := hF
        cases hq
        exact en1
      · refine st1 ?_
        obtain ⟨_, h, hF⟩ := e_bind hF
        (first | refine g_call h lv1 ?_ | refine g_callT h lv1 ?_)
        (conv => arg 1; whnf)
        refine st1 ?_
        rcases e_bif hF with ⟨hb4, hF⟩ | ⟨hb4, hF⟩ <;> (first | rw [hb4] | (conv => arg 7; rw [hb4]))
        · refine st1 ?_
          have hq : some _ = some _ := hF
          cases hq
          exact en1
        · refine st1 ?_
          obtain ⟨_, h, hF⟩ := e_bind hF
          (first | refine g_call h lv1 ?_ | refine g_callT h lv1 ?_)
          (conv => arg 1; whnf)
          refine st1 ?_
          rcases e_bif hF with ⟨hb5, hF⟩ | ⟨hb5, hF⟩ <;> (first | rw [hb5] | (conv => arg 7; rw [hb5]))
          · refine st1 ?_
            rcases e_bif hF with ⟨hb6, hF⟩ | ⟨hb6, hF⟩ <;> (first | rw [hb6] | (conv => arg 7; rw [hb6]))
            · refine st1 ?_
              rcases e_bif hF with ⟨hb7, hF⟩ | ⟨hb7, hF⟩ <;> (first | rw [hb7] | (conv => arg 7; rw [hb7]))
              · refine st1 ?_
                rcases e_bif hF with ⟨hb8, hF⟩ | ⟨hb8, hF⟩ <;> (first | rw [hb8] | (conv => arg 7; rw [hb8]))
                · refine st1 ?_
                  rcases e_bif hF with ⟨hb9, hF⟩ | ⟨hb9, hF⟩ <;> (first | rw [hb9] | (conv => arg 7; rw [hb9]))
                  · refine st1 ?_
                    rw [fl_thalweglaw02_HullFloats_39, eg_thalweglaw02_HullFloats_39, ag_thalweglaw02_HullFloats_39]
                    (conv => arg 1; whnf)
                    refine st1 ?_
                    rcases e_bif hF with ⟨hb10, hF⟩ | ⟨hb10, hF⟩ <;> (first | rw [hb10] | (conv => arg 7; rw [hb10]))
                    · refine st1 ?_
                      obtain ⟨_, h, hF⟩ := e_bind hF
                      (first | refine g_call h lv1 ?_ | refine g_callT h lv1 ?_)
                      (conv => arg 1; whnf)
                      refine st1 ?_
                      have hq : some _ = some _ := hF
                      cases hq
                      exact en1
                    · refine st1 ?_
                      have hq : some _ = some _ := hF
                      cases hq
                      exact en1
                  · refine st1 ?_
                    have hq : some _ = some _ := hF
                    cases hq
                    exact en1
                · refine st1 ?_
                  have hq : some _ = some _ := hF
                  cases hq
                  exact en1
              · refine st1 ?_
                have hq : some _ = some _ := hF
                cases hq
                exact en1
            · refine st1 ?_
              have hq : some _ = some _ := hF
              cases hq
              exact en1
          · refine st1 ?_
            rcases e_bif hF with ⟨hb11, hF⟩ | ⟨hb11, hF⟩ <;> (first | rw [hb11] | (conv => arg 7; rw [hb11]))
            · refine st1 ?_
              rcases e_bif hF with ⟨hb12, hF⟩ | ⟨hb12, hF⟩ <;> (first | rw [hb12] | (conv => arg 7; rw [hb12]))
              · refine st1 ?_
                have hq : some _ = some _ := hF
                cases hq
                exact en1
              · refine st1 ?_
                rcases e_bif hF with ⟨hb13, hF⟩ | ⟨hb13, hF⟩ <;> (first | rw [hb13] | (conv => arg 7; rw [hb13]))
                · refine st1 ?_
                  have hq : some _ = some _ := hF
                  cases hq
                  exact en1
                · refine st1 ?_
                  obtain ⟨_, h, hF⟩ := e_bind hF
                  (first | refine g_call h lv1 ?_ | refine g_callT h lv1 ?_)
                  (conv => arg 1; whnf)
                  refine st1 ?_
                  rcases e_bif hF with ⟨hb14, hF⟩ | ⟨hb14, hF⟩ <;> (first | rw [hb14] | (conv => arg 7; rw [hb14]))
                  · refine st1 ?_
                    obtain ⟨_, h, hF⟩ := e_bind hF
                    (first | refine g_call h lv1 ?_ | refine g_callT h lv1 ?_)
                    (conv => arg 1; whnf)
                    refine st1 ?_
                    rcases e_bif hF with ⟨hb15, hF⟩ | ⟨hb15, hF⟩ <;> (first | rw [hb15] | (conv => arg 7; rw [hb15]))
                    · refine st1 ?_
                      rcases e_bif hF with ⟨hb16, hF⟩ | ⟨hb16, hF⟩ <;> (first | rw [hb16] | (conv => arg 7; rw [hb16]))
                      · refine st1 ?_
                        rcases e_bif hF with ⟨hb17, hF⟩ | ⟨hb17, hF⟩ <;> (first | rw [hb17] | (conv => arg 7; rw [hb17]))
                        · refine st1 ?_
                          rw [fl_thalweglaw02_HullFloats_39, eg_thalweglaw02_HullFloats_39, ag_thalweglaw02_HullFloats_39]
                          (conv => arg 1; whnf)
                          refine st1 ?_
                          rcases e_bif hF with ⟨hb18, hF⟩ | ⟨hb18, hF⟩ <;> (first | rw [hb18] | (conv => arg 7; rw [hb18]))
                          · refine st1 ?_
                            obtain ⟨_, h, hF⟩ := e_bind hF
                            (first | refine g_call h lv1 ?_ | refine g_callT h lv1 ?_)
                            (conv => arg 1; whnf)
                            refine st1 ?_
                            have hq : some _ = some _ := hF
                            cases hq
                            exact en1
                          · refine st1 ?_
                            have hq : some _ = some _ := hF
                            cases hq
                            exact en1
                        · refine st1 ?_
                          have hq : some _ = some _ := hF
                          cases hq
                          exact en1
                      · refine st1 ?_
                        have hq : some _ = some _ := hF
                        cases hq
                        exact en1
                    · refine st1 ?_
                      rcases e_bif hF with ⟨hb19, hF⟩ | ⟨hb19, hF⟩ <;> (first | rw [hb19] | (conv => arg 7; rw [hb19]))
                      · refine st1 ?_
                        rcases e_bif hF with ⟨hb20, hF⟩ | ⟨hb20, hF⟩ <;> (first | rw [hb20] | (conv => arg 7; rw [hb20]))
                        · refine st1 ?_
                          rw [fl_thalweglaw02_HullFloats_39, eg_thalweglaw02_HullFloats_39, ag_thalweglaw02_HullFloats_39]
                          (conv => arg 1; whnf)
                          refine st1 ?_
                          rcases e_bif hF with ⟨hb21, hF⟩ | ⟨hb21, hF⟩ <;> (first | rw [hb21] | (conv => arg 7; rw [hb21]))
                          · refine st1 ?_
                            obtain ⟨_, h, hF⟩ := e_bind hF
                            (first | refine g_call h lv1 ?_ | refine g_callT h lv1 ?_)
                            (conv => arg 1; whnf)
                            refine st1 ?_
                            have hq : some _ = some _ := hF
                            cases hq
                            exact en1
                          · refine st1 ?_
                            have hq : some _ = some _ := hF
                            cases hq
                            exact en1
                        · refine st1 ?_
                          have hq : some _ = some _ := hF
                          cases hq
                          exact en1
                      · refine st1 ?_
                        have hq : some _ = some _ := hF
                        cases hq
                        exact en1
                  · refine st1 ?_
                    rcases e_bif hF with ⟨hb22, hF⟩ | ⟨hb22, hF⟩ <;> (first | rw [hb22] | (conv => arg 7; rw [hb22]))
                    · refine st1 ?_
                      rcases e_bif hF with ⟨hb23, hF⟩ | ⟨hb23, hF⟩ <;> (first | rw [hb23] | (conv => arg 7; rw [hb23]))
                      · refine st1 ?_
                        rw [fl_thalweglaw02_HullFloats_39, eg_thalweglaw02_HullFloats_39, ag_thalweglaw02_HullFloats_39]
                        (conv => arg 1; whnf)
                        refine st1 ?_
                        rcases e_bif hF with ⟨hb24, hF⟩ | ⟨hb24, hF⟩ <;> (first | rw [hb24] | (conv => arg 7; rw [hb24]))
                        · refine st1 ?_
                          obtain ⟨_, h, hF⟩ := e_bind hF
                          (first | refine g_call h lv1 ?_ | refine g_callT h lv1 ?_)
                          (conv => arg 1; whnf)
                          refine st1 ?_
                          have hq : some _ = some _ := hF
                          cases hq
                          exact en1
                        · refine st1 ?_
                          have hq : some _ = some _ := hF
                          cases hq
                          exact en1
                      · refine st1 ?_
                        have hq : some _ = some _ := hF
                        cases hq
                        exact en1
                    · refine st1 ?_
                      have hq : some _ = some _ := hF
                      cases hq
                      exact en1
            · refine st1 ?_
              obtain ⟨_, h, hF⟩ := e_bind hF
              (first | refine g_call h lv1 ?_ | refine g_callT h lv1 ?_)
              (conv => arg 1; whnf)
              refine st1 ?_
              rcases e_bif hF with ⟨hb25, hF⟩ | ⟨hb25, hF⟩ <;> (first | rw [hb25] | (conv => arg 7; rw [hb25]))
              · refine st1 ?_
                rcases e_bif hF with ⟨hb26, hF⟩ | ⟨hb26, hF⟩ <;> (first | rw [hb26] | (conv => arg 7; rw [hb26]))
                · refine st1 ?_
                  have hq : some _ = some _ := hF
                  cases hq
                  exact en1
                · refine st1 ?_
                  rcases e_bif hF with ⟨hb27, hF⟩ | ⟨hb27, hF⟩ <;> (first | rw [hb27] | (conv => arg 7; rw [hb27]))
                  · refine st1 ?_
                    have hq : some _ = some _ := hF
                    cases hq
                    exact en1
                  · refine st1 ?_
                    obtain ⟨_, h, hF⟩ := e_bind hF
                    (first | refine g_call h lv1 ?_ | refine g_callT h lv1 ?_)
                    (conv => arg 1; whnf)
                    refine st1 ?_
                    rcases e_bif hF with ⟨hb28, hF⟩ | ⟨hb28, hF⟩ <;> (first | rw [hb28] | (conv => arg 7; rw [hb28]))
                    · refine st1 ?_
                      obtain ⟨_, h, hF⟩ := e_bind hF
                      (first | refine g_call h lv1 ?_ | refine g_callT h lv1 ?_)
                      (conv => arg 1; whnf)
                      refine st1 ?_
                      rcases e_bif hF with ⟨hb29, hF⟩ | ⟨hb29, hF⟩ <;> (first | rw [hb29] | (conv => arg 7; rw [hb29]))
                      · refine st1 ?_
                        rcases e_bif hF with ⟨hb30, hF⟩ | ⟨hb30, hF⟩ <;> (first | rw [hb30] | (conv => arg 7; rw [hb30]))
                        · refine st1 ?_
                          rcases e_bif hF with ⟨hb31, hF⟩ | ⟨hb31, hF⟩ <;> (first | rw [hb31] | (conv => arg 7; rw [hb31]))
                          · refine st1 ?_
                            rw [fl_thalweglaw02_HullFloats_39, eg_thalweglaw02_HullFloats_39, ag_thalweglaw02_HullFloats_39]
                            (conv => arg 1; whnf)
                            refine st1 ?_
                            rcases e_bif hF with ⟨hb32, hF⟩ | ⟨hb32, hF⟩ <;> (first | rw [hb32] | (conv => arg 7; rw [hb32]))
                            · refine st1 ?_
                              obtain ⟨_, h, hF⟩ := e_bind hF
                              (first | refine g_call h lv1 ?_ | refine g_callT h lv1 ?_)
                              (conv => arg 1; whnf)
                              refine st1 ?_
                              have hq : some _ = some _ := hF
                              cases hq
                              exact en1
                            · refine st1 ?_
                              have hq : some _ = some _ := hF
                              cases hq
                              exact en1
                          · refine st1 ?_
                            have hq : some _ = some _ := hF
                            cases hq
                            exact en1
                        · refine st1 ?_
                          have hq : some _ = some _ := hF
                          cases hq
                          exact en1
                      · refine st1 ?_
                        rcases e_bif hF with ⟨hb33, hF⟩ | ⟨hb33, hF⟩ <;> (first | rw [hb33] | (conv => arg 7; rw [hb33]))
                        · refine st1 ?_
                          rcases e_bif hF with ⟨hb34, hF⟩ | ⟨hb34, hF⟩ <;> (first | rw [hb34] | (conv => arg 7; rw [hb34]))
                          · refine st1 ?_
                            rw [fl_thalweglaw02_HullFloats_39, eg_thalweglaw02_HullFloats_39, ag_thalweglaw02_HullFloats_39]
                            (conv => arg 1; whnf)
                            refine st1 ?_
                            rcases e_bif hF with ⟨hb35, hF⟩ | ⟨hb35, hF⟩ <;> (first | rw [hb35] | (conv => arg 7; rw [hb35]))
                            · refine st1 ?_
                              obtain ⟨_, h, hF⟩ := e_bind hF
                              (first | refine g_call h lv1 ?_ | refine g_callT h lv1 ?_)
                              (conv => arg 1; whnf)
                              refine st1 ?_
                              have hq : some _ = some _ := hF
                              cases hq
                              exact en1
                            · refine st1 ?_
                              have hq : some _ = some _ := hF
                              cases hq
                              exact en1
                          · refine st1 ?_
                            have hq : some _ = some _ := hF
                            cases hq
                            exact en1
                        · refine st1 ?_
                          have hq : some _ = some _ := hF
                          cases hq
                          exact en1
                    · refine st1 ?_
                      rcases e_bif hF with ⟨hb36, hF⟩ | ⟨hb36, hF⟩ <;> (first | rw [hb36] | (conv => arg 7; rw [hb36]))
                      · refine st1 ?_
                        rcases e_bif hF with ⟨hb37, hF⟩ | ⟨hb37, hF⟩ <;> (first | rw [hb37] | (conv => arg 7; rw [hb37]))
                        · refine st1 ?_
                          rw [fl_thalweglaw02_HullFloats_39, eg_thalweglaw02_HullFloats_39, ag_thalweglaw02_HullFloats_39]
                          (conv => arg 1; whnf)
                          refine st1 ?_
                          rcases e_bif hF with ⟨hb38, hF⟩ | ⟨hb38, hF⟩ <;> (first | rw [hb38] | (conv => arg 7; rw [hb38]))
                          · refine st1 ?_
                            obtain ⟨_, h, hF⟩ := e_bind hF
                            (first | refine g_call h lv1 ?_ | refine g_callT h lv1 ?_)
                            (conv => arg 1; whnf)
                            refine st1 ?_
                            have hq : some _ = some _ := hF
                            cases hq
                            exact en1
                          · refine st1 ?_
                            have hq : some _ = some _ := hF
                            cases hq
                            exact en1
                        · refine st1 ?_
                          have hq : some _ = some _ := hF
                          cases hq
                          exact en1
                      · refine st1 ?_
                        have hq : some _ = some _ := hF
                        cases hq
                        exact en1
              · refine st1 ?_
                rcases e_bif hF with ⟨hb39, hF⟩ | ⟨hb39, hF⟩ <;> (first | rw [hb39] | (conv => arg 7; rw [hb39]))
                · refine st1 ?_
                  have hq : some _ = some _ := hF
                  cases hq
                  exact en1
                · refine st1 ?_
                  obtain ⟨_, h, hF⟩ := e_bind hF
                  (first | refine g_call h lv1 ?_ | refine g_callT h lv1 ?_)
                  (conv => arg 1; whnf)
                  refine st1 ?_
                  rcases e_bif hF with ⟨hb40, hF⟩ | ⟨hb40, hF⟩ <;> (first | rw [hb40] | (conv => arg 7; rw [hb40]))
                  · refine st1 ?_
                    have hq : some _ = some _ := hF
                    cases hq
                    exact en1
                  · refine st1 ?_
                    obtain ⟨_, h, hF⟩ := e_bind hF
                    (first | refine g_call h lv1 ?_ | refine g_callT h lv1 ?_)
                    (conv => arg 1; whnf)
                    refine st1 ?_
                    rcases e_bif hF with ⟨hb41, hF⟩ | ⟨hb41, hF⟩ <;> (first | rw [hb41] | (conv => arg 7; rw [hb41]))
                    · refine st1 ?_
                      obtain ⟨_, h, hF⟩ := e_bind hF
                      (first | refine g_call h lv1 ?_ | refine g_callT h lv1 ?_)
                      (conv => arg 1; whnf)
                      refine st1 ?_
                      rcases e_bif hF with ⟨hb42, hF⟩ | ⟨hb42, hF⟩ <;> (first | rw [hb42] | (conv => arg 7; rw [hb42]))
                      · refine st1 ?_
                        rcases e_bif hF with ⟨hb43, hF⟩ | ⟨hb43, hF⟩ <;> (first | rw [hb43] | (conv => arg 7; rw [hb43]))
                        · refine st1 ?_
                          rcases e_bif hF with ⟨hb44, hF⟩ | ⟨hb44, hF⟩ <;> (first | rw [hb44] | (conv => arg 7; rw [hb44]))
                          · refine st1 ?_
                            rw [fl_thalweglaw02_HullFloats_39, eg_thalweglaw02_HullFloats_39, ag_thalweglaw02_HullFloats_39]
                            (conv => arg 1; whnf)
                            refine st1 ?_
                            rcases e_bif hF with ⟨hb45, hF⟩ | ⟨hb45, hF⟩ <;> (first | rw [hb45] | (conv => arg 7; rw [hb45]))
                            · refine st1 ?_
                              obtain ⟨_, h, hF⟩ := e_bind hF
                              (first | refine g_call h lv1 ?_ | refine g_callT h lv1 ?_)
                              (conv => arg 1; whnf)
                              refine st1 ?_
                              have hq : some _ = some _ := hF
                              cases hq
                              exact en1
                            · refine st1 ?_
                              have hq : some _ = some _ := hF
                              cases hq
                              exact en1
                          · refine st1 ?_
                            have hq : some _ = some _ := hF
                            cases hq
                            exact en1
                        · refine st1 ?_
                          have hq : some _ = some _ := hF
                          cases hq
                          exact en1
                      · refine st1 ?_
                        rcases e_bif hF with ⟨hb46, hF⟩ | ⟨hb46, hF⟩ <;> (first | rw [hb46] | (conv => arg 7; rw [hb46]))
                        · refine st1 ?_
                          rcases e_bif hF with ⟨hb47, hF⟩ | ⟨hb47, hF⟩ <;> (first | rw [hb47] | (conv => arg 7; rw [hb47]))
                          · refine st1 ?_
                            rw [fl_thalweglaw02_HullFloats_39, eg_thalweglaw02_HullFloats_39, ag_thalweglaw02_HullFloats_39]
                            (conv => arg 1; whnf)
                            refine st1 ?_
                            rcases e_bif hF with ⟨hb48, hF⟩ | ⟨hb48, hF⟩ <;> (first | rw [hb48] | (conv => arg 7; rw [hb48]))
                            · refine st1 ?_
                              obtain ⟨_, h, hF⟩ := e_bind hF
                              (first | refine g_call h lv1 ?_ | refine g_callT h lv1 ?_)
                              (conv => arg 1; whnf)
                              refine st1 ?_
                              have hq : some _ = some _ := hF
                              cases hq
                              exact en1
                            · refine st1 ?_
                              have hq : some _ = some _ := hF
                              cases hq
                              exact en1
                          · refine st1 ?_
                            have hq : some _ = some _ := hF
                            cases hq
                            exact en1
                        · refine st1 ?_
                          have hq : some _ = some _ := hF
                          cases hq
                          exact en1
                    · refine st1 ?_
                      rcases e_bif hF with ⟨hb49, hF⟩ | ⟨hb49, hF⟩ <;> (first | rw [hb49] | (conv => arg 7; rw [hb49]))
                      · refine st1 ?_
                        rcases e_bif hF with ⟨hb50, hF⟩ | ⟨hb50, hF⟩ <;> (first | rw [hb50] | (conv => arg 7; rw [hb50]))
                        · refine st1 ?_
                          rw [fl_thalweglaw02_HullFloats_39, eg_thalweglaw02_HullFloats_39, ag_thalweglaw02_HullFloats_39]
                          (conv => arg 1; whnf)
                          refine st1 ?_
                          rcases e_bif hF with ⟨hb51, hF⟩ | ⟨hb51, hF⟩ <;> (first | rw [hb51] | (conv => arg 7; rw [hb51]))
                          · refine st1 ?_
                            obtain ⟨_, h, hF⟩ := e_bind hF
                            (first | refine g_call h lv1 ?_ | refine g_callT h lv1 ?_)
                            (conv => arg 1; whnf)
                            refine st1 ?_
                            have hq : some _ = some _ := hF
                            cases hq
                            exact en1
                          · refine st1 ?_
                            have hq : some _ = some _ := hF
                            cases hq
                            exact en1
                        · refine st1 ?_
                          have hq : some _ = some _ := hF
                          cases hq
                          exact en1
                      · refine st1 ?_
                        have hq : some _ = some _ := hF
                        cases hq
                        exact en1

end Go.Ev
/- Chapter 2: hulls that are valid. -/
set_option linter.unusedVariables false
set_option linter.unusedSimpArgs false
namespace Go.Ev
set_option maxHeartbeats 1000000

theorem every_int {l : List Int} {p : Int → Option Bool} {q : Int → Bool} {g : FuncId} {caps : List V} (hp : ∀ x ∈ l, p x = some (q x)) (hl : l.length ≤ 4611686018427387904) : F_numbers_Every_int (l, p, g, caps) = some (l.all q) := by
  unfold F_numbers_Every_int
  simp only
  rw [show (0 : Int) = ((0 : Nat) : Int) from rfl, loop_list l (fun k => (k : Int)) q (e := .inl ()) (f := .inr false)]
  · cases l.all q <;> rfl
  · intro k hk
    simp only [L_numbers_Every_int_1, Int.ofNat_lt, hk, decide_true, cond_true, idx?_nat hk, Option.bind_some, hp _ (List.getElem_mem hk), wr_nat (show k < 9223372036854775807 by omega)]
    cases q l[k] <;> rfl
  · simp [L_numbers_Every_int_1]
theorem every_HullSection {l : List THullSection} {p : THullSection → Option Bool} {q : THullSection → Bool} {g : FuncId} {caps : List V} (hp : ∀ x ∈ l, p x = some (q x)) (hl : l.length ≤ 4611686018427387904) : F_numbers_Every_HullSection (l, p, g, caps) = some (l.all q) := by
  unfold F_numbers_Every_HullSection
  simp only
  rw [show (0 : Int) = ((0 : Nat) : Int) from rfl, loop_list l (fun k => (k : Int)) q (e := .inl ()) (f := .inr false)]
  · cases l.all q <;> rfl
  · intro k hk
    simp only [L_numbers_Every_HullSection_1, Int.ofNat_lt, hk, decide_true, cond_true, idx?_nat hk, Option.bind_some, hp _ (List.getElem_mem hk), wr_nat (show k < 9223372036854775807 by omega)]
    cases q l[k] <;> rfl
  · simp [L_numbers_Every_HullSection_1]
theorem every_HullHold {l : List THullHold} {p : THullHold → Option Bool} {q : THullHold → Bool} {g : FuncId} {caps : List V} (hp : ∀ x ∈ l, p x = some (q x)) (hl : l.length ≤ 4611686018427387904) : F_numbers_Every_HullHold (l, p, g, caps) = some (l.all q) := by
  unfold F_numbers_Every_HullHold
  simp only
  rw [show (0 : Int) = ((0 : Nat) : Int) from rfl, loop_list l (fun k => (k : Int)) q (e := .inl ()) (f := .inr false)]
  · cases l.all q <;> rfl
  · intro k hk
    simp only [L_numbers_Every_HullHold_1, Int.ofNat_lt, hk, decide_true, cond_true, idx?_nat hk, Option.bind_some, hp _ (List.getElem_mem hk), wr_nat (show k < 9223372036854775807 by omega)]
    cases q l[k] <;> rfl
  · simp [L_numbers_Every_HullHold_1]
theorem bif_and (a b : Bool) : (bif a then some b else some false) = some (a && b) := by cases a <;> rfl
theorem within1_eq (n a b : Int) : F_numbers_Within_1 (n, a, b) = some (inB n a b) := by
  simp only [F_numbers_Within_1, bif_and, inB]
theorem within_eq (a b : Int) (l : List Int) (hl : l.length ≤ 4611686018427387904) : F_numbers_Within (a, b, l) = some (l.all fun n => inB n a b) := by
  simp only [F_numbers_Within]
  rw [every_int (q := fun n => inB n a b) (fun x _ => within1_eq x a b) hl]
  rfl
theorem within1 (a b n : Int) : F_numbers_Within (a, b, [n]) = some (inB n a b) := by rw [within_eq _ _ _ (by simp)]; simp
theorem within2 (a b n m : Int) : F_numbers_Within (a, b, [n, m]) = some (inB n a b && inB m a b) := by rw [within_eq _ _ _ (by simp)]; simp
def vB (b : TBounds) (x y : Int) : Bool := decide (b.Low ≤ b.High) && (inB b.Low x y && inB b.High x y)
theorem valid_eq (b : TBounds) (x y : Int) : F_numbers_Valid (b, x, y) = some (vB b x y) := by
  simp only [F_numbers_Valid, within2, Option.bind_some, bif_and, vB]
theorem In_eq (n a b : Int) : F_thalwegref01_In (n, a, b) = some (inB n a b) := by
  simp only [F_thalwegref01_In, ge_iff_le, bif_and, inB]
theorem rvalid_eq (b : TBounds) (x y : Int) : F_thalwegref01_Valid (b, x, y) = some (vB b x y) := by
  simp only [F_thalwegref01_Valid, In_eq, Option.bind_some, bif_and]
  congr 1
  rw [Bool.eq_iff_iff]
  simp only [vB, inB, Bool.and_eq_true, decide_eq_true_eq]
  omega
theorem loop_range {S E : Type} {step : S → Option (S ⊕ E)} (n : Nat) (st : Nat → S) (q : Nat → Bool) {e f : E} (h : ∀ k, k < n → step (st k) = some (if q k then .inl (st (k + 1)) else .inr f)) (he : step (st n) = some (.inr e)) :
    loopC step (st 0) = some (if (List.range n).all q then e else f) := by
  have := loop_list (List.range n) st q (e := e) (f := f) (step := step) (fun k hk => by
    rw [List.length_range] at hk
    rw [h k hk, List.getElem_range]) (by rw [List.length_range]; exact he)
  exact this

theorem loop_range0 {E : Type} {step : Int → Option (Int ⊕ E)} (n : Nat) (q : Nat → Bool) {e f : E} (h : ∀ k : Nat, k < n → step (k : Int) = some (if q k then .inl ((k + 1 : Nat) : Int) else .inr f)) (he : step (n : Int) = some (.inr e)) : loopC step 0 = some (if (List.range n).all q then e else f) := loop_range n (fun k : Nat => (k : Int)) q h he
theorem loop_list0 {α E : Type} {step : Int → Option (Int ⊕ E)} (l : List α) (q : α → Bool) {e f : E} (h : ∀ (k : Nat) (hk : k < l.length), step (k : Int) = some (if q l[k] then .inl ((k + 1 : Nat) : Int) else .inr f)) (he : step (l.length : Int) = some (.inr e)) : loopC step 0 = some (if l.all q then e else f) := loop_list l (fun k : Nat => (k : Int)) q h he

/-! curves -/
def rowD (l : List THullRow) (k : Nat) : THullRow := l[k]?.getD ⟨0, 0⟩
theorem rowD_get {l : List THullRow} {k : Nat} (h : k < l.length) : l[k] = rowD l k := by simp [rowD, h]
def upAt (l : List THullRow) (k : Nat) : Bool := decide ((rowD l k).Draft < (rowD l (k + 1)).Draft) && decide ((rowD l k).Volume < (rowD l (k + 1)).Volume)
/-- What a curve has to be. -/
structure Cv (l : List THullRow) : Prop where
  two : 2 ≤ l.length
  most : l.length ≤ 20
  d0 : (rowD l 0).Draft = 0
  v0 : (rowD l 0).Volume = 0
  up : ∀ k, k + 1 < l.length → (rowD l k).Draft < (rowD l (k + 1)).Draft ∧ (rowD l k).Volume < (rowD l (k + 1)).Volume
  dl : (rowD l (l.length - 1)).Draft ≤ 1000
  vl : (rowD l (l.length - 1)).Volume ≤ 100000
theorem Cv.mono {l : List THullRow} (h : Cv l) : ∀ (d j : Nat), j + d < l.length → (rowD l j).Draft ≤ (rowD l (j + d)).Draft ∧ (rowD l j).Volume ≤ (rowD l (j + d)).Volume
  | 0, j, _ => ⟨Int.le_refl _, Int.le_refl _⟩
  | d + 1, j, hd => by
    have h1 := h.mono d j (by omega)
    have h2 := h.up (j + d) (by omega)
    rw [show j + (d + 1) = j + d + 1 by omega]
    omega
theorem Cv.le {l : List THullRow} (h : Cv l) {i j : Nat} (hij : i ≤ j) (hj : j < l.length) : (rowD l i).Draft ≤ (rowD l j).Draft ∧ (rowD l i).Volume ≤ (rowD l j).Volume := by
  have := h.mono (j - i) i (by omega)
  rwa [show i + (j - i) = j by omega] at this
theorem Cv.bounds {l : List THullRow} (h : Cv l) {j : Nat} (hj : j < l.length) : 0 ≤ (rowD l j).Draft ∧ (rowD l j).Draft ≤ 1000 ∧ 0 ≤ (rowD l j).Volume ∧ (rowD l j).Volume ≤ 100000 := by
  have h1 := h.le (Nat.zero_le j) hj
  have h2 := h.le (show j ≤ l.length - 1 by omega) (by omega)
  have := h.d0; have := h.v0; have := h.dl; have := h.vl
  omega
def cvOk (l : List THullRow) : Bool := inB l.length 2 20 && (((rowD l 0).Draft == 0 && ((rowD l 0).Volume == 0 && true)) && ((List.range (l.length - 1)).all (upAt l) && (decide ((rowD l (l.length - 1)).Draft ≤ 1000) && decide ((rowD l (l.length - 1)).Volume ≤ 100000))))
theorem cvOk_iff (l : List THullRow) : cvOk l = true ↔ Cv l := by
  simp only [cvOk, Bool.and_eq_true, inB_iff, beq_iff_eq, List.all_eq_true, List.mem_range, upAt, decide_eq_true_eq, Bool.true_and, and_true]
  constructor
  · rintro ⟨⟨h1, h2⟩, ⟨h3, h4⟩, h5, h6, h7⟩
    exact ⟨by omega, by omega, h3, h4, fun k hk => h5 k (by omega), h6, h7⟩
  · intro h
    have := h.two; have := h.most
    exact ⟨⟨by omega, by omega⟩, ⟨h.d0, h.v0⟩, fun k hk => h.up k (by omega), h.dl, h.vl⟩
theorem validCurve_eq (l : List THullRow) : F_hull_validCurve l = some (cvOk l) := by
  simp only [F_hull_validCurve, within1, Option.bind_some, cvOk]
  cases h1 : inB l.length 2 20 with
  | false => rfl
  | true =>
    rw [inB_iff] at h1
    simp only [Bool.not_true, cond_false, Bool.true_and]
    rw [show idx? l 0 = some l[0] from idx?_nat (show 0 < l.length by omega)]
    simp only [Option.bind_some, rowD_get (show 0 < l.length by omega)]
    cases h2 : ((rowD l 0).Draft == 0 && ((rowD l 0).Volume == 0 && true)) with
    | false => rfl
    | true =>
      simp only [Bool.not_true, cond_false, Bool.true_and]
      have hloop : loopC (L_hull_validCurve_1 l).step 1 = some (if (List.range (l.length - 1)).all (upAt l) then .inl () else .inr false) := by
        refine loop_range (E := Unit ⊕ Bool) (l.length - 1) (fun k : Nat => ((k + 1 : Nat) : Int)) (upAt l) (e := .inl ()) (f := .inr false) ?_ ?_
        · intro k hk
          simp only [L_hull_validCurve_1, Int.ofNat_lt, show k + 1 < l.length by omega, decide_true, cond_true]
          rw [wr_nat (by omega), show wr (((k + 1 : Nat) : Int) - 1) = (k : Int) by rw [wr_in (by omega) (by omega)]; omega, idx?_nat (show k < l.length by omega), idx?_nat (show k + 1 < l.length by omega)]
          simp only [Option.bind_some, rowD_get (show k < l.length by omega), rowD_get (show k + 1 < l.length by omega), upAt]
          by_cases c1 : (rowD l k).Draft < (rowD l (k + 1)).Draft
          · by_cases c2 : (rowD l k).Volume < (rowD l (k + 1)).Volume
            · simp [c1, c2, show ¬ (rowD l k).Draft ≥ (rowD l (k + 1)).Draft by omega, show ¬ (rowD l k).Volume ≥ (rowD l (k + 1)).Volume by omega]
            · simp [c1, c2, show ¬ (rowD l k).Draft ≥ (rowD l (k + 1)).Draft by omega, show (rowD l k).Volume ≥ (rowD l (k + 1)).Volume by omega]
          · simp [c1, show (rowD l k).Draft ≥ (rowD l (k + 1)).Draft by omega]
        · simp only [L_hull_validCurve_1]
          rw [show decide (((l.length - 1 + 1 : Nat) : Int) < (l.length : Int)) = false from decide_eq_false (by omega)]
          rfl
      rw [hloop]
      cases (List.range (l.length - 1)).all (upAt l) with
      | false => rfl
      | true =>
        simp only [if_true, Option.bind_some, Bool.true_and]
        rw [wr_in (by omega) (by omega), show ((l.length : Nat) : Int) - 1 = ((l.length - 1 : Nat) : Int) by omega, idx?_nat (show l.length - 1 < l.length by omega)]
        simp only [Option.bind_some, rowD_get (show l.length - 1 < l.length by omega), bif_and]

theorem bn2 {α : Type} (a b : Bool) (x y : Option α) : (bif !a then x else bif !b then x else y) = bif (a && b) then y else x := by cases a <;> cases b <;> rfl
/-! sections -/
def holdOk (len : Int) (h : THullHold) : Bool := inB h.At 0 len && inB h.Lots 0 20
def secOk (x : THullSection) : Bool := inB x.Length 1 100 && (inB x.Light 0 10000 && (inB x.Trim 1 100000 && (cvOk x.Curve && x.Holds.all (holdOk x.Length))))
theorem validSection_eq {x : THullSection} (hl : x.Holds.length ≤ 1000000) : F_hull_validSection x = some (secOk x) := by
  simp only [F_hull_validSection, within1, validCurve_eq, Option.bind_some, secOk]
  rw [every_HullHold (q := holdOk x.Length) (fun h _ => by simp only [F_hull_validSection_1, within1, Option.bind_some, holdOk, bif_and]) (by omega)]
  cases inB x.Length 1 100 <;> cases inB x.Light 0 10000 <;> cases inB x.Trim 1 100000 <;> cases cvOk x.Curve <;> rfl
def refRow (l : List THullRow) (k : Nat) : Bool := inB (rowD l k).Draft 0 1000 && (inB (rowD l k).Volume 0 100000 && (if k = 0 then ((rowD l 0).Draft == 0 && ((rowD l 0).Volume == 0 && true)) else upAt l (k - 1)))
theorem refRow_iff {l : List THullRow} (h1 : 2 ≤ l.length) (h2 : l.length ≤ 20) : (List.range l.length).all (refRow l) = true ↔ Cv l := by
  simp only [List.all_eq_true, List.mem_range]
  constructor
  · intro h
    have a0 := h 0 (by omega)
    have al := h (l.length - 1) (by omega)
    simp only [refRow, Bool.and_eq_true, inB_iff, if_true, beq_iff_eq, and_true] at a0
    simp only [refRow, Bool.and_eq_true, inB_iff] at al
    refine ⟨h1, h2, a0.2.2.1, a0.2.2.2, fun k hk => ?_, al.1.2, al.2.1.2⟩
    have a := h (k + 1) hk
    simp only [refRow, Bool.and_eq_true, inB_iff, Nat.add_sub_cancel, show ¬ k + 1 = 0 by omega, if_false, upAt, decide_eq_true_eq] at a
    exact a.2.2
  · intro h k hk
    have hb := h.bounds hk
    simp only [refRow, Bool.and_eq_true, inB_iff]
    refine ⟨⟨hb.1, hb.2.1⟩, ⟨hb.2.2.1, hb.2.2.2⟩, ?_⟩
    by_cases c : k = 0
    · rw [if_pos c, h.d0, h.v0]; rfl
    · rw [if_neg c]
      have := h.up (k - 1) (by omega)
      simp only [upAt, Bool.and_eq_true, decide_eq_true_eq]
      exact this
theorem refSection_eq {x : THullSection} (hl : x.Holds.length ≤ 1000000) : F_thalwegref02_Section x = some (secOk x) := by
  simp only [F_thalwegref02_Section, In_eq, Option.bind_some, secOk]
  cases inB x.Length 1 100 with
  | false => rfl
  | true =>
    cases inB x.Light 0 10000 with
    | false => rfl
    | true =>
      cases inB x.Trim 1 100000 with
      | false => rfl
      | true =>
        simp only [Bool.not_true, cond_false, Bool.true_and]
        cases hn : inB x.Curve.length 2 20 with
        | false => simp only [cvOk, hn, Bool.false_and, Bool.not_false, cond_true]
        | true =>
          have hn' := hn
          rw [inB_iff] at hn'
          simp only [Bool.not_true, cond_false]
          rw [loop_range0 x.Curve.length (refRow x.Curve) (e := .inl ()) (f := .inr false)]
          · have hc : cvOk x.Curve = (List.range x.Curve.length).all (refRow x.Curve) := by
              rw [Bool.eq_iff_iff, cvOk_iff, refRow_iff (by omega) (by omega)]
            rw [hc]
            cases (List.range x.Curve.length).all (refRow x.Curve) with
            | false => rfl
            | true =>
              simp only [if_true, Option.bind_some, Bool.true_and]
              rw [loop_list0 x.Holds (holdOk x.Length) (e := .inl ()) (f := .inr false)]
              · cases x.Holds.all (holdOk x.Length) <;> rfl
              · intro k hk
                simp only [L_thalwegref02_Section_2, Int.ofNat_lt, hk, decide_true, cond_true, idx?_nat hk, Option.bind_some, In_eq]
                rw [wr_nat (by omega), bn2]
                show (bif holdOk x.Length x.Holds[k] then _ else _) = _
                cases holdOk x.Length x.Holds[k] <;> rfl
              · simp [L_thalwegref02_Section_2]
          · intro k hk
            have e : (L_thalwegref02_Section_1 x).step (k : Int) = bif refRow x.Curve k then some (.inl ((k + 1 : Nat) : Int)) else some (.inr (.inr false)) := by
              simp only [L_thalwegref02_Section_1, Int.ofNat_lt, hk, decide_true, cond_true, idx?_nat hk, Option.bind_some, In_eq, rowD_get hk, refRow]
              rw [wr_nat (by omega)]
              cases inB (rowD x.Curve k).Draft 0 1000 with
              | false => rfl
              | true =>
                cases inB (rowD x.Curve k).Volume 0 100000 with
                | false => rfl
                | true =>
                  simp only [Bool.not_true, cond_false, Bool.true_and]
                  by_cases c : k = 0
                  · subst c
                    simp only [if_true, show (((0 : Nat) : Int) == 0) = true from rfl, show decide (((0 : Nat) : Int) > 0) = false from rfl, cond_true, cond_false]
                    cases ((rowD x.Curve 0).Draft == 0 && ((rowD x.Curve 0).Volume == 0 && true)) <;> rfl
                  · rw [if_neg c, show (((k : Nat) : Int) == 0) = false by rw [beq_eq_false_iff_ne]; omega, show decide (((k : Nat) : Int) > 0) = true from decide_eq_true (by omega)]
                    simp only [cond_true, cond_false]
                    rw [show wr ((k : Int) - 1) = ((k - 1 : Nat) : Int) by rw [wr_in (by omega) (by omega)]; omega, idx?_nat (show k - 1 < x.Curve.length by omega)]
                    simp only [Option.bind_some, rowD_get (show k - 1 < x.Curve.length by omega), upAt, show k - 1 + 1 = k by omega]
                    by_cases c1 : (rowD x.Curve (k - 1)).Draft < (rowD x.Curve k).Draft
                    · by_cases c2 : (rowD x.Curve (k - 1)).Volume < (rowD x.Curve k).Volume
                      · simp [c1, c2, show ¬ (rowD x.Curve k).Draft ≤ (rowD x.Curve (k - 1)).Draft by omega, show ¬ (rowD x.Curve k).Volume ≤ (rowD x.Curve (k - 1)).Volume by omega]
                      · simp [c1, c2, show ¬ (rowD x.Curve k).Draft ≤ (rowD x.Curve (k - 1)).Draft by omega, show (rowD x.Curve k).Volume ≤ (rowD x.Curve (k - 1)).Volume by omega]
                    · simp [c1, show (rowD x.Curve k).Draft ≤ (rowD x.Curve (k - 1)).Draft by omega]
            rw [e]
            cases refRow x.Curve k <;> rfl
          · simp [L_thalwegref02_Section_1]
end Go.Ev
/- Chapter 2: hulls, what they are made of. -/
set_option linter.unusedVariables false
set_option linter.unusedSimpArgs false
namespace Go.Ev
set_option maxHeartbeats 1000000

theorem drop_cons {α : Type} {l m : List α} {k : Nat} {x : α} (h : l.drop k = x :: m) : ∃ hk : k < l.length, l[k] = x ∧ l.drop (k + 1) = m := by
  have hk : k < l.length := by
    have := congrArg List.length h
    simp at this
    omega
  rw [List.drop_eq_getElem_cons hk] at h
  cases h
  exact ⟨hk, rfl, rfl⟩
theorem drop_nil {α : Type} {l : List α} {k : Nat} (h : l.drop k = []) : l.length ≤ k := by simpa using h
theorem mulB {a b : Int} {A B : Nat} (ha : a.natAbs ≤ A) (hb : b.natAbs ≤ B) : (a * b).natAbs ≤ A * B := by
  rw [Int.natAbs_mul]; exact Nat.mul_le_mul ha hb

def lenS : List THullSection → Int
  | [] => 0
  | x :: m => x.Length + lenS m
def cntS : List THullSection → Nat
  | [] => 0
  | x :: m => x.Holds.length + cntS m
/-- The holds, each with its place from the fore end. -/
def holdsS : List THullSection → Int → List (THullHold × Int)
  | [], _ => []
  | x :: m, t => x.Holds.map (fun h => (h, t + h.At)) ++ holdsS m (t + x.Length)
def lastD (x : THullSection) : Int := (rowD x.Curve (x.Curve.length - 1)).Draft
def limS : List THullSection → Int → Int
  | [], l => l
  | x :: m, l => limS m (minmax false l (lastD x))
def trimS : List THullSection → Int
  | [] => 0
  | x :: m => x.Trim + trimS m
def lightS : List THullSection → Int
  | [] => 0
  | x :: m => x.Light + lightS m
def momS (L : Int) : List THullSection → Int → Int
  | [], _ => 0
  | x :: m, t => x.Light * (2 * t + x.Length - L) + momS L m (t + x.Length)

/-- What a section has to be, in numbers. -/
structure Sec (x : THullSection) : Prop where
  len : 1 ≤ x.Length ∧ x.Length ≤ 100
  light : 0 ≤ x.Light ∧ x.Light ≤ 10000
  trim : 1 ≤ x.Trim ∧ x.Trim ≤ 100000
  cv : Cv x.Curve
  holds : ∀ h ∈ x.Holds, 0 ≤ h.At ∧ h.At ≤ x.Length ∧ 0 ≤ h.Lots ∧ h.Lots ≤ 20
theorem sec_of {x : THullSection} (h : secOk x = true) : Sec x := by
  simp only [secOk, Bool.and_eq_true, inB_iff, cvOk_iff, List.all_eq_true, holdOk] at h
  obtain ⟨h1, h2, h3, h4, h5⟩ := h
  exact ⟨h1, h2, h3, h4, fun y hy => by have := h5 y hy; omega⟩
/-- No more than the law looks at. -/
def small (l : List THullSection) : Prop := l.length ≤ 10 ∧ ∀ x ∈ l, x.Curve.length ≤ 25 ∧ x.Holds.length ≤ 8

theorem length_loop (l : List THullSection) (hl : l.length ≤ 10) : ∀ (m : List THullSection) (k : Nat) (s : Int), l.drop k = m → (∀ x ∈ m, Sec x) → 0 ≤ s → s ≤ 100 * k → loopC (L_hull_length_1 l).step (s, (k : Int)) = some (s + lenS m)
  | [], k, s, h, _, _, _ => by
    have := drop_nil h
    rw [loopC_eq]
    simp [L_hull_length_1, lenS, show ¬ k < l.length by omega]
  | x :: m, k, s, h, hx, h0, h1 => by
    obtain ⟨hk, hg, hd⟩ := drop_cons h
    have := (hx x (by simp)).len
    have e : (L_hull_length_1 l).step (s, (k : Int)) = some (.inl (s + x.Length, ((k + 1 : Nat) : Int))) := by
      simp only [L_hull_length_1, Int.ofNat_lt, hk, decide_true, cond_true, idx?_nat hk, hg, Option.bind_some]
      rw [wr_nat (by omega), wr_in (by omega) (by omega)]
    rw [loopC_eq, e]
    simp only
    rw [length_loop l hl m (k + 1) _ hd (fun y hy => hx y (by simp [hy])) (by omega) (by omega), lenS, Int.add_assoc]
theorem length_eq {l : List THullSection} (hl : l.length ≤ 10) (hx : ∀ x ∈ l, Sec x) : F_hull_length l = some (lenS l) := by
  simp only [F_hull_length]
  rw [show ((0 : Int), (0 : Int)) = (0, ((0 : Nat) : Int)) from rfl, length_loop l hl l 0 0 rfl hx (by omega) (by omega), Int.zero_add]
  rfl
theorem rlength_loop (l : THull) (hl : l.Sections.length ≤ 10) : ∀ (m : List THullSection) (k : Nat) (s : Int), l.Sections.drop k = m → (∀ x ∈ m, Sec x) → 0 ≤ s → s ≤ 100 * k → loopC (L_thalwegref02_Length_1 l).step (s, (k : Int)) = some (s + lenS m)
  | [], k, s, h, _, _, _ => by
    have := drop_nil h
    rw [loopC_eq]
    simp [L_thalwegref02_Length_1, lenS, show ¬ k < l.Sections.length by omega]
  | x :: m, k, s, h, hx, h0, h1 => by
    obtain ⟨hk, hg, hd⟩ := drop_cons h
    have := (hx x (by simp)).len
    have e : (L_thalwegref02_Length_1 l).step (s, (k : Int)) = some (.inl (s + x.Length, ((k + 1 : Nat) : Int))) := by
      simp only [L_thalwegref02_Length_1, Int.ofNat_lt, hk, decide_true, cond_true, idx?_nat hk, hg, Option.bind_some]
      rw [wr_nat (by omega), wr_in (by omega) (by omega)]
    rw [loopC_eq, e]
    simp only
    rw [rlength_loop l hl m (k + 1) _ hd (fun y hy => hx y (by simp [hy])) (by omega) (by omega), lenS, Int.add_assoc]
theorem rlength_eq {h : THull} (hl : h.Sections.length ≤ 10) (hx : ∀ x ∈ h.Sections, Sec x) : F_thalwegref02_Length h = some (lenS h.Sections) := by
  simp only [F_thalwegref02_Length]
  rw [show ((0 : Int), (0 : Int)) = (0, ((0 : Nat) : Int)) from rfl, rlength_loop h hl h.Sections 0 0 rfl hx (by omega) (by omega), Int.zero_add]
  rfl
theorem holds_loop (l : List THullSection) (hs : small l) : ∀ (m : List THullSection) (k : Nat) (s : Nat), l.drop k = m → (∀ x ∈ m, x.Holds.length ≤ 8) → s ≤ 8 * k → k ≤ l.length → loopC (L_hull_holds_1 l).step ((s : Int), (k : Int)) = some ((s + cntS m : Nat) : Int)
  | [], k, s, h, _, _, _ => by
    have := drop_nil h
    rw [loopC_eq]
    simp [L_hull_holds_1, cntS, show ¬ k < l.length by omega]
  | x :: m, k, s, h, hx, h0, _ => by
    obtain ⟨hk, hg, hd⟩ := drop_cons h
    have := hx x (by simp)
    have := hs.1
    have e : (L_hull_holds_1 l).step ((s : Int), (k : Int)) = some (.inl (((s + x.Holds.length : Nat) : Int), ((k + 1 : Nat) : Int))) := by
      simp only [L_hull_holds_1, Int.ofNat_lt, hk, decide_true, cond_true, idx?_nat hk, hg, Option.bind_some]
      rw [wr_nat (by omega), wr_in (by omega) (by omega)]
      rfl
    rw [loopC_eq, e]
    simp only
    rw [holds_loop l hs m (k + 1) _ hd (fun y hy => hx y (by simp [hy])) (by omega) (by omega), cntS, Nat.add_assoc]
theorem holds_eq {l : List THullSection} (hs : small l) : F_hull_holds l = some (cntS l : Int) := by
  simp only [F_hull_holds]
  rw [show ((0 : Int), (0 : Int)) = (((0 : Nat) : Int), ((0 : Nat) : Int)) from rfl, holds_loop l hs l 0 0 rfl (fun x hx => (hs.2 x hx).2) (by omega) (by omega), Nat.zero_add]
  rfl

def hullOk (h : THull) : Bool := inB h.Lot 1 1000 && (inB h.Sections.length 1 6 && (h.Sections.all secOk && (decide (lenS h.Sections ≤ 200) && decide ((cntS h.Sections : Int) ≤ 4))))
theorem Check_eq {h : THull} (hs : small h.Sections) : F_hull_Check h = bif hullOk h then some 0 else some 2 := by
  simp only [F_hull_Check, within1, Option.bind_some, hullOk]
  cases inB h.Lot 1 1000 with
  | false => rfl
  | true =>
    cases inB h.Sections.length 1 6 with
    | false => rfl
    | true =>
      simp only [Bool.not_true, cond_false, Bool.true_and]
      rw [every_HullSection (q := secOk) (fun x hx => validSection_eq (by have := (hs.2 x hx).2; omega)) (by have := hs.1; omega)]
      simp only [Option.bind_some]
      cases ha : h.Sections.all secOk with
      | false => rfl
      | true =>
        have hx : ∀ x ∈ h.Sections, Sec x := fun x hx => sec_of (List.all_eq_true.1 ha x hx)
        simp only [Bool.not_true, cond_false, Bool.true_and, length_eq hs.1 hx, holds_eq hs, Option.bind_some]
        by_cases c1 : lenS h.Sections > 200
        · simp [c1, show ¬ lenS h.Sections ≤ 200 by omega]
        · by_cases c2 : (cntS h.Sections : Int) > 4
          · simp [c1, show lenS h.Sections ≤ 200 by omega, c2, show ¬ (cntS h.Sections : Int) ≤ 4 by omega]
          · simp [c1, show lenS h.Sections ≤ 200 by omega, c2, show (cntS h.Sections : Int) ≤ 4 by omega]

/-! the reference's holds -/
def gH (t : Int) (x : THullHold) : THullHold := ⟨t + x.At, x.Lots⟩
theorem rholds_in (h : THull) {k : Nat} (hk : k < h.Sections.length) (t : Int) (ht : 0 ≤ t) (ht' : t ≤ 100000) (hs : Sec h.Sections[k]) (h8 : h.Sections[k].Holds.length ≤ 8) : ∀ (m : List THullHold) (j : Nat) (acc : List THullHold), h.Sections[k].Holds.drop j = m → acc.length + m.length ≤ 1000 →
    loopC (L_thalwegref02_Holds_1 t (k : Int) h).step ((j : Int), acc) = some (acc ++ m.map (gH t))
  | [], j, acc, hd, _ => by
    have := drop_nil hd
    rw [loopC_eq]
    simp [L_thalwegref02_Holds_1, idx?_nat hk, show ¬ j < h.Sections[k].Holds.length by omega]
  | x :: m, j, acc, hd, ha => by
    obtain ⟨hj, hg, hd'⟩ := drop_cons hd
    have hb := hs.holds x (by rw [← hg]; exact List.getElem_mem hj)
    have hl := hs.len
    simp only [List.length_cons] at ha
    have e : (L_thalwegref02_Holds_1 t (k : Int) h).step ((j : Int), acc) = some (.inl (((j + 1 : Nat) : Int), acc ++ [gH t x])) := by
      simp only [L_thalwegref02_Holds_1, idx?_nat hk, Option.bind_some, Int.ofNat_lt, hj, decide_true, cond_true, idx?_nat hj, hg]
      rw [wr_nat (by omega), wr_in (by omega) (by omega), app_of (by simp; omega) (by decide)]
      rfl
    rw [loopC_eq, e]
    simp only
    rw [rholds_in h hk t ht ht' hs h8 m (j + 1) _ hd' (by simp; omega)]
    simp
theorem rholds_loop (h : THull) (hs : small h.Sections) : ∀ (m : List THullSection) (k : Nat) (t : Int) (acc : List THullHold), h.Sections.drop k = m → (∀ x ∈ m, Sec x) → 0 ≤ t → t ≤ 100 * k → acc.length ≤ 8 * k →
    loopC (L_thalwegref02_Holds_2 h).step (t, (k : Int), acc) = some (acc ++ (holdsS m t).map fun p => ⟨p.2, p.1.Lots⟩)
  | [], k, t, acc, hd, _, _, _, _ => by
    have := drop_nil hd
    rw [loopC_eq]
    simp [L_thalwegref02_Holds_2, holdsS, show ¬ k < h.Sections.length by omega]
  | x :: m, k, t, acc, hd, hx, h0, h1, h2 => by
    obtain ⟨hk, hg, hd'⟩ := drop_cons hd
    have hsx := hx x (by simp)
    have hl := hsx.len
    have h10 := hs.1
    have h8 := (hs.2 _ (List.getElem_mem hk)).2
    have e : (L_thalwegref02_Holds_2 h).step (t, (k : Int), acc) = some (.inl (t + x.Length, ((k + 1 : Nat) : Int), acc ++ x.Holds.map (gH t))) := by
      simp only [L_thalwegref02_Holds_2, Int.ofNat_lt, hk, decide_true, cond_true]
      rw [show ((0 : Int), acc) = (((0 : Nat) : Int), acc) from rfl, rholds_in h hk t h0 (by omega) (by rw [hg]; exact hsx) h8 h.Sections[k].Holds 0 acc rfl (by omega)]
      simp only [Option.bind_some, idx?_nat hk, hg]
      rw [wr_nat (by omega), wr_in (by omega) (by omega)]
    rw [hg] at h8
    rw [loopC_eq, e]
    simp only
    rw [rholds_loop h hs m (k + 1) _ _ hd' (fun y hy => hx y (by simp [hy])) (by omega) (by omega) (by simp; omega)]
    simp [holdsS, gH, Function.comp_def]
def refH (h : THull) : List THullHold := (holdsS h.Sections 0).map fun p => ⟨p.2, p.1.Lots⟩
theorem rholds_eq {h : THull} (hs : small h.Sections) (hx : ∀ x ∈ h.Sections, Sec x) : F_thalwegref02_Holds h = some (refH h) := by
  simp only [F_thalwegref02_Holds]
  rw [show ((0 : Int), (0 : Int), ([] : List THullHold)) = (0, ((0 : Nat) : Int), []) from rfl, rholds_loop h hs h.Sections 0 0 [] rfl hx (by omega) (by omega) (by simp)]
  rfl
theorem holdsS_length : ∀ (m : List THullSection) (t : Int), (holdsS m t).length = cntS m
  | [], _ => rfl
  | x :: m, t => by simp [holdsS, cntS, holdsS_length m]
theorem refHull_eq {h : THull} (hs : small h.Sections) : F_thalwegref02_Hull h = some (hullOk h) := by
  simp only [F_thalwegref02_Hull, In_eq, Option.bind_some, hullOk]
  cases inB h.Lot 1 1000 with
  | false => rfl
  | true =>
    cases inB h.Sections.length 1 6 with
    | false => rfl
    | true =>
      simp only [Bool.not_true, cond_false, Bool.true_and]
      rw [loop_list0 h.Sections secOk (e := .inl ()) (f := .inr false)]
      · cases ha : h.Sections.all secOk with
        | false => rfl
        | true =>
          have hx : ∀ x ∈ h.Sections, Sec x := fun x hx => sec_of (List.all_eq_true.1 ha x hx)
          simp only [if_true, Option.bind_some, rlength_eq hs.1 hx, rholds_eq hs hx, Bool.true_and, refH, List.length_map, holdsS_length]
          cases decide (lenS h.Sections ≤ 200) <;> rfl
      · intro k hk
        simp only [L_thalwegref02_Hull_1, Int.ofNat_lt, hk, decide_true, cond_true, idx?_nat hk, Option.bind_some]
        rw [refSection_eq (by have := (hs.2 _ (List.getElem_mem hk)).2; omega), wr_nat (by have := hs.1; omega)]
        simp only [Option.bind_some]
        cases secOk h.Sections[k] <;> rfl
      · simp [L_thalwegref02_Hull_1]

/-- A valid hull. -/
structure Hl (h : THull) : Prop where
  small : small h.Sections
  lot : 1 ≤ h.Lot ∧ h.Lot ≤ 1000
  one : 1 ≤ h.Sections.length ∧ h.Sections.length ≤ 6
  sec : ∀ x ∈ h.Sections, Sec x
  len : lenS h.Sections ≤ 200
  cnt : cntS h.Sections ≤ 4
theorem hl_of {h : THull} (hs : small h.Sections) (ho : hullOk h = true) : Hl h := by
  simp only [hullOk, Bool.and_eq_true, inB_iff, List.all_eq_true, decide_eq_true_eq] at ho
  obtain ⟨h1, h2, h3, h4, h5⟩ := ho
  exact ⟨hs, h1, by omega, fun x hx => sec_of (h3 x hx), h4, by omega⟩
theorem lenS_nonneg : ∀ {m : List THullSection}, (∀ x ∈ m, Sec x) → 0 ≤ lenS m
  | [], _ => Int.le_refl 0
  | x :: m, h => by
    have h1 := (h x (by simp)).len
    have h2 := lenS_nonneg (m := m) fun y hy => h y (by simp [hy])
    rw [lenS]; omega

/-! the ship -/
def armH (L f : Int) (x : THullHold) : Thull_hold := ⟨x, f + 2 * x.At⟩
def storS (L : Int) (l : List (THullHold × Int)) : List Thull_hold := l.map fun p => ⟨p.1, 2 * p.2 - L⟩
theorem stor_in (x : THullSection) (hsx : Sec x) (f : Int) (hf : -1000 ≤ f ∧ f ≤ 10000) (a0 : THull) (s4 s5 : Int) (x20 : THullRow) (s6 s7 s8 : Int) : ∀ (m : List THullHold) (j : Nat) (acc : List Thull_hold), x.Holds.drop j = m → acc.length + m.length ≤ 1000 → x.Holds.length ≤ 8 →
    loopC (L_hull_launch_1 f a0 s4 x s5 x20 s6 s7 s8).step ((j : Int), acc) = some (acc ++ m.map (armH 0 f))
  | [], j, acc, hd, _, _ => by
    have := drop_nil hd
    rw [loopC_eq]
    simp [L_hull_launch_1, show ¬ j < x.Holds.length by omega]
  | y :: m, j, acc, hd, ha, h8 => by
    obtain ⟨hj, hg, hd'⟩ := drop_cons hd
    have hb := hsx.holds y (by rw [← hg]; exact List.getElem_mem hj)
    have hl := hsx.len
    simp only [List.length_cons] at ha
    have e : (L_hull_launch_1 f a0 s4 x s5 x20 s6 s7 s8).step ((j : Int), acc) = some (.inl (((j + 1 : Nat) : Int), acc ++ [armH 0 f y])) := by
      simp only [L_hull_launch_1, Int.ofNat_lt, hj, decide_true, cond_true, idx?_nat hj, hg, Option.bind_some]
      rw [wr_nat (by omega), wr_in (n := 2 * y.At) (by omega) (by omega), wr_in (by omega) (by omega), app_of (by simp; omega) (by decide)]
      rfl
    rw [loopC_eq, e]
    simp only
    rw [stor_in x hsx f hf a0 s4 s5 x20 s6 s7 s8 m (j + 1) _ hd' (by simp; omega) h8]
    simp
theorem launch_loop (h : THull) (hs : small h.Sections) (L : Int) (hL : 0 ≤ L ∧ L ≤ 1000) : ∀ (m : List THullSection) (k : Nat) (t l tr ma mo : Int) (st : List Thull_hold), h.Sections.drop k = m → (∀ x ∈ m, Sec x) → k ≤ 10 → 0 ≤ t → t ≤ 100 * k → 0 ≤ tr → tr ≤ 100000 * k → 0 ≤ ma → ma ≤ 10000 * k → mo.natAbs ≤ 100000000 * k → st.length ≤ 8 * k →
    loopC (L_hull_launch_2 h).step (2 * t - L, (k : Int), l, tr, ma, mo, st) = some (limS m l, tr + trimS m, ma + lightS m, mo + momS L m t, st ++ storS L (holdsS m t))
  | [], k, t, l, tr, ma, mo, st, hd, _, _, _, _, _, _, _, _, _, _ => by
    have := drop_nil hd
    rw [loopC_eq]
    simp [L_hull_launch_2, limS, trimS, lightS, momS, storS, holdsS, show ¬ k < h.Sections.length by omega]
  | x :: m, k, t, l, tr, ma, mo, st, hd, hx, hk10, h0, h1, h2, h3, h4, h5, h6, h7 => by
    obtain ⟨hk, hg, hd'⟩ := drop_cons hd
    have hsx := hx x (by simp)
    have hl := hsx.len
    have hli := hsx.light
    have htr := hsx.trim
    have h10 := hs.1
    have h8 := (hs.2 _ (List.getElem_mem hk)).2
    have hc := hsx.cv.two
    have hc' := hsx.cv.most
    rw [hg] at h8
    have hp : (x.Light * (2 * t - L + x.Length)).natAbs ≤ 10000 * 4000 := mulB (by omega) (by omega)
    have e : (L_hull_launch_2 h).step (2 * t - L, (k : Int), l, tr, ma, mo, st) = some (.inl (2 * (t + x.Length) - L, ((k + 1 : Nat) : Int), minmax false l (lastD x), tr + x.Trim, ma + x.Light, mo + x.Light * (2 * t + x.Length - L), st ++ x.Holds.map (armH 0 (2 * t - L)))) := by
      simp only [L_hull_launch_2, Int.ofNat_lt, hk, decide_true, cond_true, idx?_nat hk, hg, Option.bind_some]
      rw [show wr (((x.Curve.length : Nat) : Int) - 1) = ((x.Curve.length - 1 : Nat) : Int) by rw [wr_in (by omega) (by omega)]; omega, idx?_nat (show x.Curve.length - 1 < x.Curve.length by omega)]
      simp only [Option.bind_some]
      rw [show ((0 : Int), st) = (((0 : Nat) : Int), st) from rfl, stor_in x hsx (2 * t - L) (by omega) h (k : Int) l x.Curve[x.Curve.length - 1] tr ma mo x.Holds 0 st rfl (by omega) h8]
      simp only [Option.bind_some]
      rw [wr_nat (by omega), wr_in (n := 2 * x.Length) (by omega) (by omega), wr_in (n := 2 * t - L + 2 * x.Length) (by omega) (by omega), wr_in (n := tr + x.Trim) (by omega) (by omega), wr_in (n := ma + x.Light) (by omega) (by omega),
        wr_in (n := 2 * t - L + x.Length) (by omega) (by omega), wr_in (n := x.Light * (2 * t - L + x.Length)) (by omega) (by omega), wr_in (n := mo + x.Light * (2 * t - L + x.Length)) (by omega) (by omega),
        rowD_get (show x.Curve.length - 1 < x.Curve.length by omega), show 2 * t - L + 2 * x.Length = 2 * (t + x.Length) - L by omega, show 2 * t - L + x.Length = 2 * t + x.Length - L by omega]
      rfl
    rw [show 2 * t - L + x.Length = 2 * t + x.Length - L by omega] at hp
    rw [loopC_eq, e]
    simp only
    rw [launch_loop h hs L hL m (k + 1) (t + x.Length) _ _ _ _ _ hd' (fun y hy => hx y (by simp [hy])) (by omega) (by omega) (by omega) (by omega) (by omega) (by omega) (by omega) (by omega) (by simp; omega)]
    simp only [limS, trimS, lightS, momS, storS, holdsS, List.map_append, List.map_map, Int.add_assoc, List.append_assoc, Option.some.injEq, Prod.mk.injEq, true_and]
    congr 2
    refine List.map_congr_left fun y _ => ?_
    simp only [armH, Function.comp_def, Thull_hold.mk.injEq, true_and]
    omega
/-- The ship of a valid hull. -/
def shipOf (h : THull) : Thull_ship := ⟨h, limS h.Sections 1000, trimS h.Sections, lightS h.Sections, momS (lenS h.Sections) h.Sections 0, storS (lenS h.Sections) (holdsS h.Sections 0)⟩
def noShip : Thull_ship := ⟨⟨0, []⟩, 0, 0, 0, 0, []⟩
theorem launch_eq {h : THull} (hs : small h.Sections) : F_hull_launch h = some (bif hullOk h then (shipOf h, 0) else (noShip, 2)) := by
  simp only [F_hull_launch, Check_eq hs]
  cases ho : hullOk h with
  | false => rfl
  | true =>
    have hh := hl_of hs ho
    have hn := lenS_nonneg hh.sec
    have hle := hh.len
    simp only [cond_true, Option.bind_some, bne_self_eq_false, cond_false, length_eq hs.1 hh.sec]
    rw [wr_in (n := 0 - lenS h.Sections) (by omega) (by omega), show ((0 : Int) - lenS h.Sections, (0 : Int), (1000 : Int), (0 : Int), (0 : Int), (0 : Int), ([] : List Thull_hold)) = (2 * 0 - lenS h.Sections, ((0 : Nat) : Int), 1000, 0, 0, 0, []) from rfl,
      launch_loop h hs (lenS h.Sections) (by omega) h.Sections 0 0 1000 0 0 0 [] rfl hh.sec (by omega) (by omega) (by omega) (by omega) (by omega) (by omega) (by omega) (by simp) (by simp)]
    simp only [Option.bind_some, Int.zero_add, List.nil_append]
    rfl
end Go.Ev
/- Chapter 2: volumes, and the least drafts. -/
set_option linter.unusedVariables false
set_option linter.unusedSimpArgs false
namespace Go.Ev
set_option maxHeartbeats 1000000

/-- The segment of a curve in which a draft lies. -/
def idxC (l : List THullRow) (d : Int) : Nat := (List.range (l.length - 1)).findIdx fun k => decide (d ≤ (rowD l (k + 1)).Draft)
def valC (l : List THullRow) (k : Nat) (d : Int) : Int := (rowD l k).Volume + Int.tdiv (((rowD l (k + 1)).Volume - (rowD l k).Volume) * (d - (rowD l k).Draft)) ((rowD l (k + 1)).Draft - (rowD l k).Draft)
def cvAt (l : List THullRow) (d : Int) : Int := valC l (idxC l d) d
theorem idx_spec {l : List THullRow} (h : Cv l) {d : Int} (hd : d ≤ (rowD l (l.length - 1)).Draft) : idxC l d + 1 < l.length ∧ d ≤ (rowD l (idxC l d + 1)).Draft ∧ ∀ j, j < idxC l d → (rowD l (j + 1)).Draft < d := by
  have h2 := h.two
  have hlt : idxC l d < (List.range (l.length - 1)).length := List.findIdx_lt_length_of_exists ⟨l.length - 2, List.mem_range.2 (by omega), by rw [show l.length - 2 + 1 = l.length - 1 by omega]; simpa using hd⟩
  have hlt' := hlt
  rw [List.length_range] at hlt'
  have key : ∀ k (hk : k < (List.range (l.length - 1)).length), (List.range (l.length - 1))[k] = k := fun k hk => List.getElem_range hk
  have hget : d ≤ (rowD l ((List.range (l.length - 1))[idxC l d] + 1)).Draft := of_decide_eq_true (List.findIdx_getElem (p := fun k => decide (d ≤ (rowD l (k + 1)).Draft)) (xs := List.range (l.length - 1)) (w := hlt))
  rw [key] at hget
  refine ⟨by omega, hget, fun j hj => ?_⟩
  have hjl : j < (List.range (l.length - 1)).length := by omega
  have := List.not_of_lt_findIdx (p := fun k => decide (d ≤ (rowD l (k + 1)).Draft)) (xs := List.range (l.length - 1)) (i := j) hj
  have h3 : ¬ d ≤ (rowD l ((List.range (l.length - 1))[j] + 1)).Draft := of_decide_eq_false (by simpa only [Bool.not_eq_true] using this)
  rw [key] at h3
  omega
/-- What is known of the segment. -/
structure Seg (l : List THullRow) (k : Nat) (d : Int) : Prop where
  lt : k + 1 < l.length
  lo : (rowD l k).Draft ≤ d
  hi : d ≤ (rowD l (k + 1)).Draft
theorem seg_of {l : List THullRow} (h : Cv l) {d : Int} (h0 : 0 ≤ d) (hd : d ≤ (rowD l (l.length - 1)).Draft) : Seg l (idxC l d) d := by
  obtain ⟨h1, h2, h3⟩ := idx_spec h hd
  refine ⟨h1, ?_, h2⟩
  cases hk : idxC l d with
  | zero => rw [h.d0]; exact h0
  | succ k => have := h3 k (by omega); omega
theorem val_bound {l : List THullRow} (h : Cv l) {k : Nat} {d : Int} (s : Seg l k d) : (rowD l k).Volume ≤ valC l k d ∧ valC l k d ≤ (rowD l (k + 1)).Volume := by
  obtain ⟨h1, h2, h3⟩ := s
  have hu := h.up k h1
  have hn : 0 ≤ ((rowD l (k + 1)).Volume - (rowD l k).Volume) * (d - (rowD l k).Draft) := Int.mul_nonneg (by omega) (by omega)
  have e := Int.tdiv_eq_ediv_of_nonneg (b := (rowD l (k + 1)).Draft - (rowD l k).Draft) hn
  have h0 : 0 ≤ ((rowD l (k + 1)).Volume - (rowD l k).Volume) * (d - (rowD l k).Draft) / ((rowD l (k + 1)).Draft - (rowD l k).Draft) := Int.ediv_nonneg hn (by omega)
  have hle : ((rowD l (k + 1)).Volume - (rowD l k).Volume) * (d - (rowD l k).Draft) / ((rowD l (k + 1)).Draft - (rowD l k).Draft) ≤ (rowD l (k + 1)).Volume - (rowD l k).Volume := by
    refine Int.ediv_le_of_le_mul (by omega) ?_
    exact Int.mul_le_mul_of_nonneg_left (by omega) (by omega)
  unfold valC
  rw [e]
  omega
theorem val_mono {l : List THullRow} (h : Cv l) {k : Nat} {d d' : Int} (s : Seg l k d) (hd : d ≤ d') : valC l k d ≤ valC l k d' := by
  obtain ⟨h1, h2, h3⟩ := s
  have hu := h.up k h1
  have hn : 0 ≤ ((rowD l (k + 1)).Volume - (rowD l k).Volume) * (d - (rowD l k).Draft) := Int.mul_nonneg (by omega) (by omega)
  have hm : ((rowD l (k + 1)).Volume - (rowD l k).Volume) * (d - (rowD l k).Draft) ≤ ((rowD l (k + 1)).Volume - (rowD l k).Volume) * (d' - (rowD l k).Draft) := Int.mul_le_mul_of_nonneg_left (by omega) (by omega)
  unfold valC
  rw [Int.tdiv_eq_ediv_of_nonneg hn, Int.tdiv_eq_ediv_of_nonneg (Int.le_trans hn hm)]
  have := Int.ediv_le_ediv (c := (rowD l (k + 1)).Draft - (rowD l k).Draft) (by omega) hm
  omega
theorem cv_mono {l : List THullRow} (h : Cv l) {d d' : Int} (h0 : 0 ≤ d) (hd : d ≤ d') (hd' : d' ≤ (rowD l (l.length - 1)).Draft) : cvAt l d ≤ cvAt l d' := by
  have s := seg_of h h0 (show d ≤ (rowD l (l.length - 1)).Draft by omega)
  have s' := seg_of h (show 0 ≤ d' by omega) hd'
  obtain ⟨a1, a2, a3⟩ := idx_spec h (show d ≤ (rowD l (l.length - 1)).Draft by omega)
  obtain ⟨b1, b2, b3⟩ := idx_spec h hd'
  rcases Nat.lt_trichotomy (idxC l d) (idxC l d') with c | c | c
  · have v := (val_bound h s).2
    have v' := (val_bound h s').1
    have := (h.le (i := idxC l d + 1) (j := idxC l d') c (by omega)).2
    unfold cvAt
    omega
  · unfold cvAt
    rw [← c]
    exact val_mono h s hd
  · have := a3 (idxC l d') c
    omega
theorem cv_bound {l : List THullRow} (h : Cv l) {d : Int} (h0 : 0 ≤ d) (hd : d ≤ (rowD l (l.length - 1)).Draft) : 0 ≤ cvAt l d ∧ cvAt l d ≤ 100000 := by
  have s := seg_of h h0 hd
  have v := val_bound h s
  have b1 := h.bounds (show idxC l d < l.length by have := s.lt; omega)
  have b2 := h.bounds s.lt
  unfold cvAt
  omega

theorem slc?_nat {α : Type} {l : List α} {j k : Nat} (h : j ≤ k) (h' : k ≤ l.length) : slc? l (j : Int) (k : Int) = some ((l.drop j).take (k - j)) := by
  unfold slc?
  rw [if_pos (by omega)]
  simp
theorem val_wr {l : List THullRow} (h : Cv l) {k : Nat} {d : Int} (s : Seg l k d) : wr ((rowD l k).Volume + wr (Int.tdiv (wr (wr ((rowD l (k + 1)).Volume - (rowD l k).Volume) * wr (d - (rowD l k).Draft))) (wr ((rowD l (k + 1)).Draft - (rowD l k).Draft)))) = valC l k d := by
  have b1 := h.bounds (show k < l.length by have := s.lt; omega)
  have b2 := h.bounds s.lt
  have v := val_bound h s
  have hlo := s.lo
  have hhi := s.hi
  have hp : (((rowD l (k + 1)).Volume - (rowD l k).Volume) * (d - (rowD l k).Draft)).natAbs ≤ 100000 * 1000 := mulB (by omega) (by omega)
  unfold valC at v ⊢
  rw [wr_in (n := (rowD l (k + 1)).Volume - (rowD l k).Volume) (by omega) (by omega), wr_in (n := d - (rowD l k).Draft) (by omega) (by omega), wr_in (n := ((rowD l (k + 1)).Volume - (rowD l k).Volume) * (d - (rowD l k).Draft)) (by omega) (by omega),
    wr_in (n := (rowD l (k + 1)).Draft - (rowD l k).Draft) (by omega) (by omega)]
  rw [wr_in (n := Int.tdiv _ _) (by omega) (by omega), wr_in (by omega) (by omega)]
theorem curveAt_eq {l : List THullRow} (h : Cv l) {d : Int} (h0 : 0 ≤ d) (hd : d ≤ (rowD l (l.length - 1)).Draft) : F_hull_curveAt (l, d) = some (cvAt l d) := by
  obtain ⟨a1, a2, a3⟩ := idx_spec h hd
  have s := seg_of h h0 hd
  have h20 := h.most
  have hu := h.up _ a1
  have b1 := h.bounds (show idxC l d < l.length by omega)
  have b2 := h.bounds a1
  simp only [F_hull_curveAt]
  rw [show slc? l 1 ((l.length : Nat) : Int) = some ((l.drop 1).take (l.length - 1)) from slc?_nat (j := 1) (by omega) (by omega), List.take_of_length_le (by simp)]
  simp only [Option.bind_some]
  have hi : ∀ g caps, F_slices_IndexFunc_L_HullRow_HullRow (l.drop 1, (fun q => F_hull_curveAt_1 (q, d)), g, caps) = some ((idxC l d : Nat) : Int) := by
    intro g caps
    have hget : ∀ k (hk : k < (l.drop 1).length), (l.drop 1)[k] = rowD l (k + 1) := by
      intro k hk
      rw [List.length_drop] at hk
      rw [List.getElem_drop, rowD_get (show 1 + k < l.length by omega), Nat.add_comm]
    have hloop : loopC (L_slices_IndexFunc_L_HullRow_HullRow_1 (l.drop 1) (fun q => F_hull_curveAt_1 (q, d)) g caps).step 0 = some (.inr ((idxC l d : Nat) : Int)) := by
      refine loop_run (E := Unit ⊕ Int) (fun k : Nat => (k : Int)) (idxC l d) (e := .inr ((idxC l d : Nat) : Int)) ?_ ?_
      · intro k hk
        have hkl : k < (l.drop 1).length := by rw [List.length_drop]; omega
        have := a3 k hk
        simp only [L_slices_IndexFunc_L_HullRow_HullRow_1, Int.ofNat_lt, hkl, decide_true, cond_true, idx?_nat hkl, Option.bind_some, hget k hkl, F_hull_curveAt_1]
        rw [show decide (d ≤ (rowD l (k + 1)).Draft) = false from decide_eq_false (by omega), wr_nat (by omega)]
        rfl
      · have hkl : idxC l d < (l.drop 1).length := by rw [List.length_drop]; omega
        simp only [L_slices_IndexFunc_L_HullRow_HullRow_1, Int.ofNat_lt, hkl, decide_true, cond_true, idx?_nat hkl, Option.bind_some, hget _ hkl, F_hull_curveAt_1]
        rw [show decide (d ≤ (rowD l (idxC l d + 1)).Draft) = true from decide_eq_true a2]
        rfl
    simp only [F_slices_IndexFunc_L_HullRow_HullRow, hloop, Option.bind_some]
  rw [hi]
  simp only [Option.bind_some]
  rw [idx?_nat (show idxC l d < l.length by omega), wr_nat (by omega), idx?_nat a1]
  simp only [Option.bind_some, rowD_get (show idxC l d < l.length by omega), rowD_get a1]
  rw [nz_of (show wr ((rowD l (idxC l d + 1)).Draft - (rowD l (idxC l d)).Draft) ≠ 0 by rw [wr_in (by omega) (by omega)]; omega)]
  simp only [Option.bind_some, val_wr h s]
  rfl
theorem rcurve_eq {l : List THullRow} (h : Cv l) {d : Int} (h0 : 0 ≤ d) (hd : d ≤ (rowD l (l.length - 1)).Draft) (x : THullSection) (hx : x.Curve = l) (s1 s2 : Int) (a0 : THull) : loopC (L_thalwegref02_Volume_1 d s1 s2 x a0).step 1 = some ((idxC l d + 1 : Nat) : Int) := by
  obtain ⟨a1, a2, a3⟩ := idx_spec h hd
  have h20 := h.most
  refine loop_run (fun k : Nat => ((k + 1 : Nat) : Int)) (idxC l d) (e := ((idxC l d + 1 : Nat) : Int)) ?_ ?_
  · intro k hk
    have := a3 k hk
    simp only [L_thalwegref02_Volume_1, hx]
    rw [idx?_nat (show k + 1 < l.length by omega)]
    simp only [Option.bind_some, rowD_get (show k + 1 < l.length by omega)]
    rw [show decide ((rowD l (k + 1)).Draft < d) = true from decide_eq_true this, wr_nat (by omega)]
    rfl
  · simp only [L_thalwegref02_Volume_1, hx]
    rw [idx?_nat a1]
    simp only [Option.bind_some, rowD_get a1]
    rw [show decide ((rowD l (idxC l d + 1)).Draft < d) = false from decide_eq_false (by omega)]
    rfl

def volS : List THullSection → Int → Int
  | [], _ => 0
  | x :: m, d => cvAt x.Curve d + volS m d
/-- A draft that all sections have. -/
def fits (m : List THullSection) (d : Int) : Prop := 0 ≤ d ∧ ∀ x ∈ m, d ≤ lastD x
theorem lim_le : ∀ (m : List THullSection) (l : Int), limS m l ≤ l ∧ ∀ x ∈ m, limS m l ≤ lastD x
  | [], l => ⟨Int.le_refl l, by simp⟩
  | x :: m, l => by
    have h := lim_le m (minmax false l (lastD x))
    have e : minmax false l (lastD x) ≤ l ∧ minmax false l (lastD x) ≤ lastD x := by
      simp only [minmax, Bool.false_eq_true, if_false]; split <;> omega
    rw [limS]
    refine ⟨by omega, fun y hy => ?_⟩
    rcases List.mem_cons.1 hy with rfl | hy
    · omega
    · exact h.2 y hy
theorem lim_nonneg : ∀ (m : List THullSection) (l : Int), (∀ x ∈ m, Sec x) → 0 ≤ l → 0 ≤ limS m l
  | [], l, _, h => h
  | x :: m, l, hx, h => by
    have b := (hx x (by simp)).cv.bounds (show x.Curve.length - 1 < x.Curve.length by have := (hx x (by simp)).cv.two; omega)
    rw [limS]
    refine lim_nonneg m _ (fun y hy => hx y (by simp [hy])) ?_
    simp only [minmax, Bool.false_eq_true, if_false]
    have : 0 ≤ lastD x := b.1
    split <;> omega
theorem fits_of {m : List THullSection} {l d : Int} (h0 : 0 ≤ d) (h : d ≤ limS m l) : fits m d := ⟨h0, fun x hx => by have := (lim_le m l).2 x hx; omega⟩
theorem vol_mono : ∀ {m : List THullSection} {d d' : Int}, (∀ x ∈ m, Sec x) → 0 ≤ d → d ≤ d' → fits m d' → volS m d ≤ volS m d'
  | [], _, _, _, _, _, _ => Int.le_refl 0
  | x :: m, d, d', hx, h0, hd, hf => by
    have h1 := cv_mono (hx x (by simp)).cv h0 hd (hf.2 x (by simp))
    have h2 := vol_mono (m := m) (fun y hy => hx y (by simp [hy])) h0 hd ⟨hf.1, fun y hy => hf.2 y (by simp [hy])⟩
    rw [volS, volS]; omega
theorem vol_loop (s : Thull_ship) (hl : s.Hull.Sections.length ≤ 10) {d : Int} : ∀ (m : List THullSection) (k : Nat) (v : Int), s.Hull.Sections.drop k = m → (∀ x ∈ m, Sec x) → fits m d → 0 ≤ v → v ≤ 100000 * k → loopC (L_hull_ship_volume_1 d s).step (v, (k : Int)) = some (v + volS m d)
  | [], k, v, h, _, _, _, _ => by
    have := drop_nil h
    rw [loopC_eq]
    simp [L_hull_ship_volume_1, volS, show ¬ k < s.Hull.Sections.length by omega]
  | x :: m, k, v, h, hx, hf, h0, h1 => by
    obtain ⟨hk, hg, hd'⟩ := drop_cons h
    have hc := (hx x (by simp)).cv
    have b := cv_bound hc hf.1 (hf.2 x (by simp))
    have e : (L_hull_ship_volume_1 d s).step (v, (k : Int)) = some (.inl (v + cvAt x.Curve d, ((k + 1 : Nat) : Int))) := by
      simp only [L_hull_ship_volume_1, Int.ofNat_lt, hk, decide_true, cond_true, idx?_nat hk, hg, Option.bind_some, curveAt_eq hc hf.1 (hf.2 x (by simp))]
      rw [wr_nat (by omega), wr_in (by omega) (by omega)]
    rw [loopC_eq, e]
    simp only
    rw [vol_loop s hl m (k + 1) _ hd' (fun y hy => hx y (by simp [hy])) ⟨hf.1, fun y hy => hf.2 y (by simp [hy])⟩ (by omega) (by omega), volS, Int.add_assoc]
theorem volume_eq {s : Thull_ship} (hl : s.Hull.Sections.length ≤ 10) {d : Int} (hx : ∀ x ∈ s.Hull.Sections, Sec x) (hf : fits s.Hull.Sections d) : F_hull_ship_volume (s, d) = some (volS s.Hull.Sections d) := by
  simp only [F_hull_ship_volume]
  rw [show ((0 : Int), (0 : Int)) = (0, ((0 : Nat) : Int)) from rfl, vol_loop s hl s.Hull.Sections 0 0 rfl hx hf (by omega) (by omega), Int.zero_add]
  rfl
theorem rvol_loop (s : THull) (hl : s.Sections.length ≤ 10) {d : Int} : ∀ (m : List THullSection) (k : Nat) (v : Int), s.Sections.drop k = m → (∀ x ∈ m, Sec x) → fits m d → 0 ≤ v → v ≤ 100000 * k → loopC (L_thalwegref02_Volume_2 d s).step (v, (k : Int)) = some (v + volS m d)
  | [], k, v, h, _, _, _, _ => by
    have := drop_nil h
    rw [loopC_eq]
    simp [L_thalwegref02_Volume_2, volS, show ¬ k < s.Sections.length by omega]
  | x :: m, k, v, h, hx, hf, h0, h1 => by
    obtain ⟨hk, hg, hd'⟩ := drop_cons h
    have hc := (hx x (by simp)).cv
    have hfx := hf.2 x (by simp)
    have b := cv_bound hc hf.1 hfx
    have sg := seg_of hc hf.1 hfx
    have hlt := sg.lt
    have hu := hc.up _ hlt
    have h20 := hc.most
    have b1 := hc.bounds (show idxC x.Curve d < x.Curve.length by omega)
    have b2 := hc.bounds hlt
    have e : (L_thalwegref02_Volume_2 d s).step (v, (k : Int)) = some (.inl (v + cvAt x.Curve d, ((k + 1 : Nat) : Int))) := by
      simp only [L_thalwegref02_Volume_2, Int.ofNat_lt, hk, decide_true, cond_true, idx?_nat hk, hg, Option.bind_some, rcurve_eq hc hf.1 hfx x rfl]
      rw [show wr (((idxC x.Curve d + 1 : Nat) : Int) - 1) = ((idxC x.Curve d : Nat) : Int) by rw [wr_in (by omega) (by omega)]; omega, idx?_nat (show idxC x.Curve d < x.Curve.length by omega), idx?_nat hlt]
      simp only [Option.bind_some, rowD_get (show idxC x.Curve d < x.Curve.length by omega), rowD_get hlt]
      rw [nz_of (show wr ((rowD x.Curve (idxC x.Curve d + 1)).Draft - (rowD x.Curve (idxC x.Curve d)).Draft) ≠ 0 by rw [wr_in (by omega) (by omega)]; omega), Int.mul_comm (wr (d - (rowD x.Curve (idxC x.Curve d)).Draft)), val_wr hc sg, wr_nat (by omega)]
      simp only [Option.bind_some]
      rw [show valC x.Curve (idxC x.Curve d) d = cvAt x.Curve d from rfl, wr_in (by omega) (by omega)]
    rw [loopC_eq, e]
    simp only
    rw [rvol_loop s hl m (k + 1) _ hd' (fun y hy => hx y (by simp [hy])) ⟨hf.1, fun y hy => hf.2 y (by simp [hy])⟩ (by omega) (by omega), volS, Int.add_assoc]
theorem rVolume_eq {s : THull} (hl : s.Sections.length ≤ 10) {d : Int} (hx : ∀ x ∈ s.Sections, Sec x) (hf : fits s.Sections d) : F_thalwegref02_Volume (s, d) = some (volS s.Sections d) := by
  simp only [F_thalwegref02_Volume]
  rw [show ((0 : Int), (0 : Int)) = (0, ((0 : Nat) : Int)) from rfl, rvol_loop s hl s.Sections 0 0 rfl hx hf (by omega) (by omega), Int.zero_add]
  rfl
theorem rlim_loop (s : THull) (hl : s.Sections.length ≤ 10) : ∀ (m : List THullSection) (k : Nat) (v : Int), s.Sections.drop k = m → (∀ x ∈ m, Sec x) → loopC (L_thalwegref02_Limit_1 s).step (v, (k : Int)) = some (limS m v)
  | [], k, v, h, _ => by
    have := drop_nil h
    rw [loopC_eq]
    simp [L_thalwegref02_Limit_1, limS, show ¬ k < s.Sections.length by omega]
  | x :: m, k, v, h, hx => by
    obtain ⟨hk, hg, hd'⟩ := drop_cons h
    have hc := (hx x (by simp)).cv
    have h2 := hc.two
    have h20 := hc.most
    have e : (L_thalwegref02_Limit_1 s).step (v, (k : Int)) = some (.inl (minmax false v (lastD x), ((k + 1 : Nat) : Int))) := by
      simp only [L_thalwegref02_Limit_1, Int.ofNat_lt, hk, decide_true, cond_true, idx?_nat hk, hg, Option.bind_some]
      rw [show wr (((x.Curve.length : Nat) : Int) - 1) = ((x.Curve.length - 1 : Nat) : Int) by rw [wr_in (by omega) (by omega)]; omega, idx?_nat (show x.Curve.length - 1 < x.Curve.length by omega)]
      simp only [Option.bind_some, rowD_get (show x.Curve.length - 1 < x.Curve.length by omega)]
      rw [wr_nat (by omega)]
      rfl
    rw [loopC_eq, e]
    simp only
    rw [rlim_loop s hl m (k + 1) _ hd' (fun y hy => hx y (by simp [hy])), limS]
theorem rLimit_eq {s : THull} (hl : s.Sections.length ≤ 10) (hx : ∀ x ∈ s.Sections, Sec x) : F_thalwegref02_Limit s = some (limS s.Sections 1000) := by
  simp only [F_thalwegref02_Limit]
  rw [show ((1000 : Int), (0 : Int)) = (1000, ((0 : Nat) : Int)) from rfl, rlim_loop s hl s.Sections 0 1000 rfl hx]
  rfl

/-! sort.Search -/
theorem mid_eq {lo hi : Nat} (h : lo ≤ hi) (hh : hi ≤ 1000000) : wr (Int.fdiv (IntKind.wrap .u64 (wr ((lo : Int) + (hi : Int)))) 2) = (((lo + hi) / 2 : Nat) : Int) := by
  rw [wr_in (n := (lo : Int) + (hi : Int)) (by omega) (by omega)]
  have e : IntKind.wrap .u64 ((lo : Int) + (hi : Int)) = ((lo + hi : Nat) : Int) := by
    simp [IntKind.wrap, IntKind.bits, IntKind.signed]; omega
  rw [e, show Int.fdiv ((lo + hi : Nat) : Int) 2 = (((lo + hi) / 2 : Nat) : Int) by rw [Int.fdiv_eq_ediv_of_nonneg _ (by omega)]; omega, wr_in (by omega) (by omega)]
theorem search_loop {n : Nat} (hn : n ≤ 100000) (q : Nat → Bool) (p : Int → Option Bool) (g : FuncId) (caps : List V) (hp : ∀ k : Nat, k < n → p (k : Int) = some (q k)) (hm : ∀ j k, j ≤ k → k < n → q j = true → q k = true) : ∀ (d lo hi : Nat), hi - lo ≤ d → lo ≤ hi → hi ≤ n → (∀ j, j < lo → q j = false) → (hi < n → q hi = true) →
    ∃ r : Nat, r ≤ n ∧ loopC (L_sort_Search_1 p g caps).step ((lo : Int), (hi : Int)) = some (r : Int) ∧ (∀ j, j < r → q j = false) ∧ (r < n → q r = true)
  | d, lo, hi, hd, hlh, hhn, hlo, hhi => by
    by_cases c : lo < hi
    · have hmid : (lo + hi) / 2 < n := by omega
      have e : (L_sort_Search_1 p g caps).step ((lo : Int), (hi : Int)) = some (.inl (if q ((lo + hi) / 2) then ((lo : Int), (((lo + hi) / 2 : Nat) : Int)) else ((((lo + hi) / 2 + 1 : Nat) : Int), (hi : Int)))) := by
        simp only [L_sort_Search_1, Int.ofNat_lt, c, decide_true, cond_true]
        rw [mid_eq hlh (by omega), hp _ hmid]
        simp only [Option.bind_some]
        rw [wr_nat (by omega)]
        cases q ((lo + hi) / 2) <;> rfl
      cases d with
      | zero => omega
      | succ d =>
        rw [loopC_eq, e]
        simp only
        cases hq : q ((lo + hi) / 2) with
        | true =>
          simp only [if_true]
          exact search_loop hn q p g caps hp hm d lo ((lo + hi) / 2) (by omega) (by omega) (by omega) hlo (fun _ => hq)
        | false =>
          simp only [Bool.false_eq_true, if_false]
          refine search_loop hn q p g caps hp hm d ((lo + hi) / 2 + 1) hi (by omega) (by omega) hhn (fun j hj => ?_) hhi
          cases hj' : q j with
          | false => rfl
          | true => rw [hm j ((lo + hi) / 2) (by omega) hmid hj'] at hq; cases hq
    · obtain rfl : lo = hi := by omega
      refine ⟨lo, hhn, ?_, hlo, hhi⟩
      rw [loopC_eq]
      simp [L_sort_Search_1]
theorem search_eq {n : Nat} (hn : n ≤ 100000) (q : Nat → Bool) (p : Int → Option Bool) (g : FuncId) (caps : List V) (hp : ∀ k : Nat, k < n → p (k : Int) = some (q k)) (hm : ∀ j k, j ≤ k → k < n → q j = true → q k = true) :
    ∃ r : Nat, r ≤ n ∧ F_sort_Search ((n : Int), p, g, caps) = some (r : Int) ∧ (∀ j, j < r → q j = false) ∧ (r < n → q r = true) := by
  obtain ⟨r, h1, h2, h3, h4⟩ := search_loop hn q p g caps hp hm n 0 n (by omega) (by omega) (by omega) (fun j hj => by omega) (fun h => by omega)
  refine ⟨r, h1, ?_, h3, h4⟩
  simp only [F_sort_Search]
  rw [show ((0 : Int), ((n : Nat) : Int)) = (((0 : Nat) : Int), (n : Int)) from rfl, h2]
  rfl
end Go.Ev
