/- A part of the proof of HullFloats. -/
import Derived.Test.YteajfcmpmcopoabGreatW6
/- What the functions do over typed data. -/
set_option linter.unusedVariables false
set_option linter.unusedSimpArgs false
namespace Go.Ev
open Go.Proofs
set_option maxHeartbeats 8000000
set_option maxRecDepth 100000
structure THullRow where
  Draft : Int
  Volume : Int
  deriving DecidableEq
def eTHullRow (x : THullRow) : List V := [(V.v (.int .i64 (x.Draft))), (V.v (.int .i64 (x.Volume)))]
structure THullHold where
  At : Int
  Lots : Int
  deriving DecidableEq
def eTHullHold (x : THullHold) : List V := [(V.v (.int .i64 (x.At))), (V.v (.int .i64 (x.Lots)))]
structure THullSection where
  Length : Int
  Light : Int
  Trim : Int
  Curve : List THullRow
  Holds : List THullHold
  deriving DecidableEq
def eTHullSection (x : THullSection) : List V := [(V.v (.int .i64 (x.Length))), (V.v (.int .i64 (x.Light))), (V.v (.int .i64 (x.Trim))), (V.sl (recs eTHullRow (x.Curve)) (x.Curve).length), (V.sl (recs eTHullHold (x.Holds)) (x.Holds).length)]
structure THull where
  Lot : Int
  Sections : List THullSection
  deriving DecidableEq
def eTHull (x : THull) : List V := [(V.v (.int .i64 (x.Lot))), (V.sl (recs eTHullSection (x.Sections)) (x.Sections).length)]
structure Thull_hold where
  HullHold : THullHold
  arm_ : Int
  deriving DecidableEq
def eThull_hold (x : Thull_hold) : List V := [(V.v (.int .i64 (x.HullHold.At))), (V.v (.int .i64 (x.HullHold.Lots))), (V.v (.int .i64 (x.arm_)))]
structure Thull_ship where
  Hull : THull
  limit_ : Int
  trim_ : Int
  mass_ : Int
  moment_ : Int
  storage_ : List Thull_hold
  deriving DecidableEq
def eThull_ship (x : Thull_ship) : List V := [(V.v (.int .i64 (x.Hull.Lot))), (V.sl (recs eTHullSection (x.Hull.Sections)) (x.Hull.Sections).length), (V.v (.int .i64 (x.limit_))), (V.v (.int .i64 (x.trim_))), (V.v (.int .i64 (x.mass_))), (V.v (.int .i64 (x.moment_))), (V.sl (recs eThull_hold (x.storage_)) (x.storage_).length)]
structure TBounds where
  Low : Int
  High : Int
  deriving DecidableEq
def eTBounds (x : TBounds) : List V := [(V.v (.int .i64 (x.Low))), (V.v (.int .i64 (x.High)))]
structure THullFloat where
  Mean : TBounds
  Deep : TBounds
  Head : Int
  deriving DecidableEq
def eTHullFloat (x : THullFloat) : List V := [(V.v (.int .i64 (x.Mean.Low))), (V.v (.int .i64 (x.Mean.High))), (V.v (.int .i64 (x.Deep.Low))), (V.v (.int .i64 (x.Deep.High))), (V.v (.int .i64 (x.Head)))]
structure Tthalweglaw02_Loaded where
  Hull : THull
  Load : List Int
  Density : TBounds
  deriving DecidableEq
def eTthalweglaw02_Loaded (x : Tthalweglaw02_Loaded) : List V := [(V.v (.int .i64 (x.Hull.Lot))), (V.sl (recs eTHullSection (x.Hull.Sections)) (x.Hull.Sections).length), (V.sl (recs (eI .i64) (x.Load)) (x.Load).length), (V.v (.int .i64 (x.Density.Low))), (V.v (.int .i64 (x.Density.High)))]

noncomputable def L_thalweglaw02_great_1 (a0 : THull) : LoopD (Int) (Unit ⊕ Bool) (Unit) where
  step := fun s => match s with
    | s1 =>
      bif (decide (s1 < ((a0.Sections).length : Int))) then
        bif (decide (s1 < 11)) then
          (idx? (a0.Sections) (s1)).bind fun x4 =>
          bif (decide (((x4.Curve).length : Int) > 25)) then
            some (.inr (.inr true))
          else
            (idx? (a0.Sections) (s1)).bind fun x5 =>
            bif (decide (((x5.Holds).length : Int) > 8)) then
              some (.inr (.inr true))
            else
              some (.inl (wr (s1 + 1)))
        else
          some (.inr (.inl ()))
      else
        some (.inr (.inl ()))
  at_ := fun s gh => match s, gh with
    | s1, () => ⟨[(1, (V.box 0 0)), (2, (V.v (.bool (false)))), (3, (V.v (.int .i64 (s1))))], [(0, Bx.var [(V.v (.int .i64 (a0.Lot))), (V.sl (recs eTHullSection (a0.Sections)) (a0.Sections).length)] false)], 1⟩
noncomputable def F_thalweglaw02_great : (THull) → Option (Bool) := fun x => match x with
  | (a0) =>
    (loopC (L_thalweglaw02_great_1 a0).step 0).bind fun e => match e with
    | (.inl ()) =>
      some (decide (((a0.Sections).length : Int) > 10))
    | (.inr r6) =>
      some r6

noncomputable def L_thalweglaw02_own_1 (a0 : THull) : LoopD (Int × (List THullSection)) (((List THullSection))) (Unit) where
  step := fun s => match s with
    | (s1, s2) =>
      bif (decide (s1 < ((a0.Sections).length : Int))) then
        (idx? (a0.Sections) (s1)).bind fun x7 =>
        (app? (([] : List THullRow)) (x7.Curve) 16).bind fun l8 =>
        (app? (([] : List THullHold)) (x7.Holds) 16).bind fun l9 =>
        (app? (s2) (([(⟨x7.Length, x7.Light, x7.Trim, l8, l9⟩ : THullSection)] : List THullSection)) 72).bind fun l10 =>
        some (.inl ((wr (s1 + 1)), l10))
      else
        some (.inr s2)
  at_ := fun s gh => match s, gh with
    | (s1, s2), () => ⟨[(1, (V.box 0 0)), (2, (V.box 1 0)), (3, (V.box 5 0)), (4, (V.v (.int .i64 (s1))))], [(0, Bx.var [(V.v (.int .i64 (a0.Lot))), (V.sl (recs eTHullSection (a0.Sections)) (a0.Sections).length)] false), (1, Bx.var [(V.v (.int .i64 (0))), (V.v (.slice none 0 0))] false), (5, Bx.var [(V.v (.int .i64 (a0.Lot))), (V.osl 6 (s2).length)] false), (6, Bx.row 112 5 (recs eTHullSection (s2)) 0)], 7⟩
noncomputable def F_thalweglaw02_own : (THull) → Option (THull) := fun x => match x with
  | (a0) =>
    (loopC (L_thalweglaw02_own_1 a0).step (0, ([] : List THullSection))).bind fun e => match e with
    | s11 =>
      some (⟨a0.Lot, s11⟩ : THull)

noncomputable def F_thalweglaw02_numbers : ((List Int)) → Option (List Int) := fun x => match x with
  | (a0) =>
    (app? (([] : List Int)) (a0) 8).bind fun l1 =>
    some l1

noncomputable def L_numbers_Every_int_1 (a1 : (Int → Option Bool)) (a0 : List Int) (g : FuncId) (caps : List V) : LoopD (Int) (Unit ⊕ Bool) (Unit) where
  step := fun s => match s with
    | s1 =>
      bif (decide (s1 < ((a0).length : Int))) then
        (idx? (a0) (s1)).bind fun x4 =>
        (a1 (x4)).bind fun y5 =>
        bif (!y5) then
          some (.inr (.inr false))
        else
          some (.inl (wr (s1 + 1)))
      else
        some (.inr (.inl ()))
  at_ := fun s gh => match s, gh with
    | s1, () => ⟨[(1, (V.fn g caps)), (4, (V.v (.bool (false)))), (7, (V.sl (recs (eI .i64) (a0)) (a0).length)), (8, (V.v (.int .i64 (((a0).length : Int))))), (9, (V.v (.int .i64 (s1))))], [], 0⟩
noncomputable def F_numbers_Every_int : ((List Int) × ((Int → Option Bool)) × FuncId × (List V)) → Option (Bool) := fun x => match x with
  | (a0, a1, g, caps) =>
    (loopC (L_numbers_Every_int_1 a1 a0 g caps).step 0).bind fun e => match e with
    | (.inl ()) =>
      some true
    | (.inr r6) =>
      some r6

noncomputable def F_numbers_Within_1 : (Int × Int × Int) → Option (Bool) := fun x => match x with
  | (a0, c0, c1) =>
    bif (decide (c0 ≤ a0)) then
      some (decide (a0 ≤ c1))
    else
      some false

noncomputable def F_numbers_Within : (Int × Int × (List Int)) → Option (Bool) := fun x => match x with
  | (a0, a1, a2) =>
    (F_numbers_Every_int (a2, (fun q => F_numbers_Within_1 (q, a0, a1)), 87, [(V.fptr [(V.v (.int .i64 (a0)))]), (V.fptr [(V.v (.int .i64 (a1)))])])).bind fun y1 =>
    some y1

noncomputable def L_numbers_Every_HullSection_1 (a1 : (THullSection → Option Bool)) (a0 : List THullSection) (g : FuncId) (caps : List V) : LoopD (Int) (Unit ⊕ Bool) (Unit) where
  step := fun s => match s with
    | s1 =>
      bif (decide (s1 < ((a0).length : Int))) then
        (idx? (a0) (s1)).bind fun x4 =>
        (a1 (x4)).bind fun y5 =>
        bif (!y5) then
          some (.inr (.inr false))
        else
          some (.inl (wr (s1 + 1)))
      else
        some (.inr (.inl ()))
  at_ := fun s gh => match s, gh with
    | s1, () => ⟨[(1, (V.fn g caps)), (4, (V.v (.bool (false)))), (7, (V.sl (recs eTHullSection (a0)) (a0).length)), (8, (V.v (.int .i64 (((a0).length : Int))))), (9, (V.v (.int .i64 (s1))))], [], 0⟩
noncomputable def F_numbers_Every_HullSection : ((List THullSection) × ((THullSection → Option Bool)) × FuncId × (List V)) → Option (Bool) := fun x => match x with
  | (a0, a1, g, caps) =>
    (loopC (L_numbers_Every_HullSection_1 a1 a0 g caps).step 0).bind fun e => match e with
    | (.inl ()) =>
      some true
    | (.inr r6) =>
      some r6

noncomputable def L_hull_validCurve_1 (a0 : List THullRow) : LoopD (Int) (Unit ⊕ Bool) (Unit) where
  step := fun s => match s with
    | s3 =>
      bif (decide (s3 < ((a0).length : Int))) then
        (idx? (a0) ((wr (s3 - 1)))).bind fun x8 =>
        (idx? (a0) (s3)).bind fun x9 =>
        bif (decide (x8.Draft ≥ x9.Draft)) then
          some (.inr (.inr false))
        else
          (idx? (a0) ((wr (s3 - 1)))).bind fun x10 =>
          (idx? (a0) (s3)).bind fun x11 =>
          bif (decide (x10.Volume ≥ x11.Volume)) then
            some (.inr (.inr false))
          else
            some (.inl (wr (s3 + 1)))
      else
        some (.inr (.inl ()))
  at_ := fun s gh => match s, gh with
    | s3, () => ⟨[(0, (V.sl (recs eTHullRow (a0)) (a0).length)), (2, (V.v (.bool (false)))), (3, (V.v (.int .i64 (s3))))], [], 0⟩
noncomputable def F_hull_validCurve : ((List THullRow)) → Option (Bool) := fun x => match x with
  | (a0) =>
    (F_numbers_Within (2, 20, ([((a0).length : Int)] : List Int))).bind fun y1 =>
    bif (!y1) then
      some false
    else
      (idx? (a0) (0)).bind fun x2 =>
      bif (!(x2.Draft == 0 && (x2.Volume == 0 && true))) then
        some false
      else
        (loopC (L_hull_validCurve_1 a0).step 1).bind fun e => match e with
        | (.inl ()) =>
          (idx? (a0) ((wr (((a0).length : Int) - 1)))).bind fun x12 =>
          bif (decide (x12.Draft ≤ 1000)) then
            some (decide (x12.Volume ≤ 100000))
          else
            some false
        | (.inr r13) =>
          some r13

noncomputable def L_numbers_Every_HullHold_1 (a1 : (THullHold → Option Bool)) (a0 : List THullHold) (g : FuncId) (caps : List V) : LoopD (Int) (Unit ⊕ Bool) (Unit) where
  step := fun s => match s with
    | s1 =>
      bif (decide (s1 < ((a0).length : Int))) then
        (idx? (a0) (s1)).bind fun x4 =>
        (a1 (x4)).bind fun y5 =>
        bif (!y5) then
          some (.inr (.inr false))
        else
          some (.inl (wr (s1 + 1)))
      else
        some (.inr (.inl ()))
  at_ := fun s gh => match s, gh with
    | s1, () => ⟨[(1, (V.fn g caps)), (4, (V.v (.bool (false)))), (7, (V.sl (recs eTHullHold (a0)) (a0).length)), (8, (V.v (.int .i64 (((a0).length : Int))))), (9, (V.v (.int .i64 (s1))))], [], 0⟩
noncomputable def F_numbers_Every_HullHold : ((List THullHold) × ((THullHold → Option Bool)) × FuncId × (List V)) → Option (Bool) := fun x => match x with
  | (a0, a1, g, caps) =>
    (loopC (L_numbers_Every_HullHold_1 a1 a0 g caps).step 0).bind fun e => match e with
    | (.inl ()) =>
      some true
    | (.inr r6) =>
      some r6

noncomputable def F_hull_validSection_1 : (THullHold × THullSection) → Option (Bool) := fun x => match x with
  | (a0, c0) =>
    (F_numbers_Within (0, c0.Length, ([a0.At] : List Int))).bind fun y1 =>
    bif y1 then
      (F_numbers_Within (0, 20, ([a0.Lots] : List Int))).bind fun y2 =>
      some y2
    else
      some false

noncomputable def F_hull_validSection : (THullSection) → Option (Bool) := fun x => match x with
  | (a0) =>
    (F_numbers_Within (1, 100, ([a0.Length] : List Int))).bind fun y1 =>
    bif y1 then
      (F_numbers_Within (0, 10000, ([a0.Light] : List Int))).bind fun y2 =>
      bif y2 then
        (F_numbers_Within (1, 100000, ([a0.Trim] : List Int))).bind fun y3 =>
        bif y3 then
          (F_hull_validCurve (a0.Curve)).bind fun y4 =>
          bif y4 then
            (F_numbers_Every_HullHold (a0.Holds, (fun q => F_hull_validSection_1 (q, a0)), 90, [(V.fptr [(V.v (.int .i64 (a0.Length))), (V.v (.int .i64 (a0.Light))), (V.v (.int .i64 (a0.Trim))), (V.sl (recs eTHullRow (a0.Curve)) (a0.Curve).length), (V.sl (recs eTHullHold (a0.Holds)) (a0.Holds).length)])])).bind fun y5 =>
            some y5
          else
            some false
        else
          some false
      else
        some false
    else
      some false

noncomputable def L_hull_length_1 (a0 : List THullSection) : LoopD (Int × Int) (Int) (Unit) where
  step := fun s => match s with
    | (s1, s2) =>
      bif (decide (s2 < ((a0).length : Int))) then
        (idx? (a0) (s2)).bind fun x4 =>
        some (.inl ((wr (s1 + x4.Length)), (wr (s2 + 1))))
      else
        some (.inr s1)
  at_ := fun s gh => match s, gh with
    | (s1, s2), () => ⟨[(2, (V.v (.int .i64 (0)))), (3, (V.v (.int .i64 (s1)))), (6, (V.sl (recs eTHullSection (a0)) (a0).length)), (7, (V.v (.int .i64 (((a0).length : Int))))), (8, (V.v (.int .i64 (s2))))], [], 0⟩
noncomputable def F_hull_length : ((List THullSection)) → Option (Int) := fun x => match x with
  | (a0) =>
    (loopC (L_hull_length_1 a0).step (0, 0)).bind fun e => match e with
    | s5 =>
      some s5

noncomputable def L_hull_holds_1 (a0 : List THullSection) : LoopD (Int × Int) (Int) (Unit) where
  step := fun s => match s with
    | (s1, s2) =>
      bif (decide (s2 < ((a0).length : Int))) then
        (idx? (a0) (s2)).bind fun x4 =>
        some (.inl ((wr (s1 + ((x4.Holds).length : Int))), (wr (s2 + 1))))
      else
        some (.inr s1)
  at_ := fun s gh => match s, gh with
    | (s1, s2), () => ⟨[(2, (V.v (.int .i64 (0)))), (3, (V.v (.int .i64 (s1)))), (6, (V.sl (recs eTHullSection (a0)) (a0).length)), (7, (V.v (.int .i64 (((a0).length : Int))))), (8, (V.v (.int .i64 (s2))))], [], 0⟩
noncomputable def F_hull_holds : ((List THullSection)) → Option (Int) := fun x => match x with
  | (a0) =>
    (loopC (L_hull_holds_1 a0).step (0, 0)).bind fun e => match e with
    | s5 =>
      some s5

noncomputable def F_hull_Check : (THull) → Option (Int) := fun x => match x with
  | (a0) =>
    (F_numbers_Within (1, 1000, ([a0.Lot] : List Int))).bind fun y1 =>
    bif (!y1) then
      some 2
    else
      (F_numbers_Within (1, 6, ([((a0.Sections).length : Int)] : List Int))).bind fun y2 =>
      bif (!y2) then
        some 2
      else
        (F_numbers_Every_HullSection (a0.Sections, (fun q => F_hull_validSection (q)), 48, [])).bind fun y3 =>
        bif (!y3) then
          some 2
        else
          (F_hull_length (a0.Sections)).bind fun y4 =>
          bif (decide (y4 > 200)) then
            some 2
          else
            (F_hull_holds (a0.Sections)).bind fun y5 =>
            bif (decide (y5 > 4)) then
              some 2
            else
              some 0

noncomputable def L_hull_launch_1 (s3 : Int) (a0 : THull) (s4 : Int) (x19 : THullSection) (s5 : Int) (x20 : THullRow) (s6 : Int) (s7 : Int) (s8 : Int) : LoopD (Int × (List Thull_hold)) (((List Thull_hold))) (Unit) where
  step := fun s => match s with
    | (s21, s22) =>
      bif (decide (s21 < ((x19.Holds).length : Int))) then
        (idx? (x19.Holds) (s21)).bind fun x25 =>
        (app? (s22) (([(⟨x25, (wr (s3 + (wr (2 * x25.At))))⟩ : Thull_hold)] : List Thull_hold)) 24).bind fun l26 =>
        some (.inl ((wr (s21 + 1)), l26))
      else
        some (.inr s22)
  at_ := fun s gh => match s, gh with
    | (s21, s22), () => ⟨[(2, (V.box 1 0)), (3, (V.v (.int .i64 (0)))), (5, (V.box 10 0)), (6, (V.v (.int .i64 (s3)))), (8, (V.box 15 0)), (24, (V.sl (recs eTHullSection (a0.Sections)) (a0.Sections).length)), (25, (V.v (.int .i64 (((a0.Sections).length : Int))))), (26, (V.v (.int .i64 (s4)))), (67, (V.sl (recs eTHullHold (x19.Holds)) (x19.Holds).length)), (68, (V.v (.int .i64 (((x19.Holds).length : Int))))), (69, (V.v (.int .i64 (s21))))], [(1, Bx.var [(V.v (.int .i64 (0))), (V.v (.slice none 0 0)), (V.v (.int .i64 (0))), (V.v (.int .i64 (0))), (V.v (.int .i64 (0))), (V.v (.int .i64 (0))), (V.v (.slice none 0 0))] false), (10, Bx.var [(V.v (.int .i64 (a0.Lot))), (V.sl (recs eTHullSection (a0.Sections)) (a0.Sections).length), (V.v (.int .i64 ((minmax false s5 x20.Draft)))), (V.v (.int .i64 ((wr (s6 + x19.Trim))))), (V.v (.int .i64 ((wr (s7 + x19.Light))))), (V.v (.int .i64 ((wr (s8 + (wr (x19.Light * (wr (s3 + x19.Length))))))))), (V.osl 11 (s22).length)] false), (11, Bx.row 180 3 (recs eThull_hold (s22)) 0), (15, Bx.var [(V.v (.int .i64 (x19.Length))), (V.v (.int .i64 (x19.Light))), (V.v (.int .i64 (x19.Trim))), (V.sl (recs eTHullRow (x19.Curve)) (x19.Curve).length), (V.sl (recs eTHullHold (x19.Holds)) (x19.Holds).length)] false)], 16⟩
noncomputable def L_hull_launch_2 (a0 : THull) : LoopD (Int × Int × Int × Int × Int × Int × (List Thull_hold)) ((Int × Int × Int × Int × (List Thull_hold))) (Unit) where
  step := fun s => match s with
    | (s3, s4, s5, s6, s7, s8, s9) =>
      bif (decide (s4 < ((a0.Sections).length : Int))) then
        (idx? (a0.Sections) (s4)).bind fun x19 =>
        (idx? (x19.Curve) ((wr (((x19.Curve).length : Int) - 1)))).bind fun x20 =>
        (loopC (L_hull_launch_1 s3 a0 s4 x19 s5 x20 s6 s7 s8).step (0, s9)).bind fun e => match e with
        | s27 =>
          some (.inl ((wr (s3 + (wr (2 * x19.Length)))), (wr (s4 + 1)), (minmax false s5 x20.Draft), (wr (s6 + x19.Trim)), (wr (s7 + x19.Light)), (wr (s8 + (wr (x19.Light * (wr (s3 + x19.Length)))))), s27))
      else
        some (.inr (s5, s6, s7, s8, s9))
  at_ := fun s gh => match s, gh with
    | (s3, s4, s5, s6, s7, s8, s9), () => ⟨[(2, (V.box 1 0)), (3, (V.v (.int .i64 (0)))), (5, (V.box 10 0)), (6, (V.v (.int .i64 (s3)))), (24, (V.sl (recs eTHullSection (a0.Sections)) (a0.Sections).length)), (25, (V.v (.int .i64 (((a0.Sections).length : Int))))), (26, (V.v (.int .i64 (s4))))], [(1, Bx.var [(V.v (.int .i64 (0))), (V.v (.slice none 0 0)), (V.v (.int .i64 (0))), (V.v (.int .i64 (0))), (V.v (.int .i64 (0))), (V.v (.int .i64 (0))), (V.v (.slice none 0 0))] false), (10, Bx.var [(V.v (.int .i64 (a0.Lot))), (V.sl (recs eTHullSection (a0.Sections)) (a0.Sections).length), (V.v (.int .i64 (s5))), (V.v (.int .i64 (s6))), (V.v (.int .i64 (s7))), (V.v (.int .i64 (s8))), (V.osl 11 (s9).length)] false), (11, Bx.row 180 3 (recs eThull_hold (s9)) 0)], 12⟩
noncomputable def F_hull_launch : (THull) → Option (Thull_ship × Int) := fun x => match x with
  | (a0) =>
    (F_hull_Check (a0)).bind fun y1 =>
    bif (y1 != 0) then
      some ((⟨(⟨0, ([] : List THullSection)⟩ : THull), 0, 0, 0, 0, ([] : List Thull_hold)⟩ : Thull_ship), y1)
    else
      (F_hull_length (a0.Sections)).bind fun y2 =>
      (loopC (L_hull_launch_2 a0).step ((wr (0 - y2)), 0, 1000, 0, 0, 0, ([] : List Thull_hold))).bind fun e => match e with
      | (s28, s29, s30, s31, s32) =>
        some ((⟨a0, s28, s29, s30, s31, s32⟩ : Thull_ship), 0)

noncomputable def L_slices_IndexFunc_L_HullRow_HullRow_1 (a0 : List THullRow) (a1 : (THullRow → Option Bool)) (g : FuncId) (caps : List V) : LoopD (Int) (Unit ⊕ Int) (Unit) where
  step := fun s => match s with
    | s1 =>
      bif (decide (s1 < ((a0).length : Int))) then
        (idx? (a0) (s1)).bind fun x4 =>
        (a1 (x4)).bind fun y5 =>
        bif y5 then
          some (.inr (.inr s1))
        else
          some (.inl (wr (s1 + 1)))
      else
        some (.inr (.inl ()))
  at_ := fun s gh => match s, gh with
    | s1, () => ⟨[(0, (V.sl (recs eTHullRow (a0)) (a0).length)), (1, (V.fn g caps)), (4, (V.v (.int .i64 (0)))), (7, (V.v (.int .i64 (((a0).length : Int))))), (8, (V.v (.int .i64 (s1))))], [], 0⟩
noncomputable def F_slices_IndexFunc_L_HullRow_HullRow : ((List THullRow) × ((THullRow → Option Bool)) × FuncId × (List V)) → Option (Int) := fun x => match x with
  | (a0, a1, g, caps) =>
    (loopC (L_slices_IndexFunc_L_HullRow_HullRow_1 a0 a1 g caps).step 0).bind fun e => match e with
    | (.inl ()) =>
      some (-1)
    | (.inr r6) =>
      some r6

noncomputable def F_hull_curveAt_1 : (THullRow × Int) → Option (Bool) := fun x => match x with
  | (a0, c0) =>
    some (decide (c0 ≤ a0.Draft))

noncomputable def F_hull_curveAt : ((List THullRow) × Int) → Option (Int) := fun x => match x with
  | (a0, a1) =>
    (slc? (a0) (1) (((a0).length : Int))).bind fun l1 =>
    (F_slices_IndexFunc_L_HullRow_HullRow (l1, (fun q => F_hull_curveAt_1 (q, a1)), 117, [(V.fptr [(V.v (.int .i64 (a1)))])])).bind fun y2 =>
    (idx? (a0) (y2)).bind fun x3 =>
    (idx? (a0) ((wr (y2 + 1)))).bind fun x4 =>
    (nz? ((wr (x4.Draft - x3.Draft)))).bind fun _ =>
    some (wr (x3.Volume + (wr (Int.tdiv (wr ((wr (x4.Volume - x3.Volume)) * (wr (a1 - x3.Draft)))) (wr (x4.Draft - x3.Draft))))))

noncomputable def L_hull_ship_volume_1 (a1 : Int) (a0 : Thull_ship) : LoopD (Int × Int) (Int) (Unit) where
  step := fun s => match s with
    | (s1, s2) =>
      bif (decide (s2 < ((a0.Hull.Sections).length : Int))) then
        (idx? (a0.Hull.Sections) (s2)).bind fun x5 =>
        (F_hull_curveAt (x5.Curve, a1)).bind fun y6 =>
        some (.inl ((wr (s1 + y6)), (wr (s2 + 1))))
      else
        some (.inr s1)
  at_ := fun s gh => match s, gh with
    | (s1, s2), () => ⟨[(1, (V.v (.int .i64 (a1)))), (4, (V.v (.int .i64 (0)))), (5, (V.v (.int .i64 (s1)))), (10, (V.sl (recs eTHullSection (a0.Hull.Sections)) (a0.Hull.Sections).length)), (11, (V.v (.int .i64 (((a0.Hull.Sections).length : Int))))), (12, (V.v (.int .i64 (s2))))], [], 0⟩
noncomputable def F_hull_ship_volume : (Thull_ship × Int) → Option (Int) := fun x => match x with
  | (a0, a1) =>
    (loopC (L_hull_ship_volume_1 a1 a0).step (0, 0)).bind fun e => match e with
    | s7 =>
      some s7

noncomputable def F_hull_Volume : (THull × Int) → Option (Int × Int) := fun x => match x with
  | (a0, a1) =>
    (F_hull_launch (a0)).bind fun y1 =>
    bif (y1.2 != 0) then
      some (0, y1.2)
    else
      (F_numbers_Within (0, y1.1.limit_, ([a1] : List Int))).bind fun y2 =>
      bif (!y2) then
        some (0, 3)
      else
        (F_hull_ship_volume (y1.1, a1)).bind fun y3 =>
        some (y3, 0)

noncomputable def L_hull_ship_checkLoad_1 (a1 : List Int) (a0 : Thull_ship) : LoopD (Int) (Unit ⊕ Int) (Unit) where
  step := fun s => match s with
    | s1 =>
      bif (decide (s1 < ((a1).length : Int))) then
        (idx? (a1) (s1)).bind fun x5 =>
        (idx? (a0.storage_) (s1)).bind fun x6 =>
        (F_numbers_Within (0, x6.HullHold.Lots, ([x5] : List Int))).bind fun y7 =>
        bif (!y7) then
          some (.inr (.inr 3))
        else
          some (.inl (wr (s1 + 1)))
      else
        some (.inr (.inl ()))
  at_ := fun s gh => match s, gh with
    | s1, () => ⟨[(2, (V.box 0 0)), (4, (V.v (.int .i64 (0)))), (13, (V.sl (recs (eI .i64) (a1)) (a1).length)), (14, (V.v (.int .i64 (((a1).length : Int))))), (15, (V.v (.int .i64 (s1))))], [(0, Bx.var [(V.v (.int .i64 (a0.Hull.Lot))), (V.sl (recs eTHullSection (a0.Hull.Sections)) (a0.Hull.Sections).length), (V.v (.int .i64 (a0.limit_))), (V.v (.int .i64 (a0.trim_))), (V.v (.int .i64 (a0.mass_))), (V.v (.int .i64 (a0.moment_))), (V.sl (recs eThull_hold (a0.storage_)) (a0.storage_).length)] false)], 1⟩
noncomputable def F_hull_ship_checkLoad : (Thull_ship × (List Int)) → Option (Int) := fun x => match x with
  | (a0, a1) =>
    bif (((a1).length : Int) != ((a0.storage_).length : Int)) then
      some 4
    else
      (loopC (L_hull_ship_checkLoad_1 a1 a0).step 0).bind fun e => match e with
      | (.inl ()) =>
        some 0
      | (.inr r8) =>
        some r8

noncomputable def F_numbers_Valid : (TBounds × Int × Int) → Option (Bool) := fun x => match x with
  | (a0, a1, a2) =>
    bif (decide (a0.Low ≤ a0.High)) then
      (F_numbers_Within (a1, a2, ([a0.Low, a0.High] : List Int))).bind fun y1 =>
      some y1
    else
      some false

noncomputable def F_hull_validDensity : (TBounds) → Option (Bool) := fun x => match x with
  | (a0) =>
    (F_numbers_Valid (a0, 900, 1100)).bind fun y1 =>
    some y1

noncomputable def L_hull_ship_loaded_1 (a1 : List Int) (a0 : Thull_ship) : LoopD (Int × Int × Int) ((Int × Int)) (Unit) where
  step := fun s => match s with
    | (s1, s2, s3) =>
      bif (decide (s3 < ((a1).length : Int))) then
        (idx? (a1) (s3)).bind fun x6 =>
        (idx? (a0.storage_) (s3)).bind fun x7 =>
        some (.inl ((wr (s1 + x6)), (wr (s2 + (wr ((wr (x6 * a0.Hull.Lot)) * x7.arm_)))), (wr (s3 + 1))))
      else
        some (.inr (s1, s2))
  at_ := fun s gh => match s, gh with
    | (s1, s2, s3), () => ⟨[(2, (V.box 0 0)), (4, (V.v (.int .i64 (s1)))), (5, (V.v (.int .i64 (s2)))), (10, (V.sl (recs (eI .i64) (a1)) (a1).length)), (11, (V.v (.int .i64 (((a1).length : Int))))), (12, (V.v (.int .i64 (s3))))], [(0, Bx.var [(V.v (.int .i64 (a0.Hull.Lot))), (V.sl (recs eTHullSection (a0.Hull.Sections)) (a0.Hull.Sections).length), (V.v (.int .i64 (a0.limit_))), (V.v (.int .i64 (a0.trim_))), (V.v (.int .i64 (a0.mass_))), (V.v (.int .i64 (a0.moment_))), (V.sl (recs eThull_hold (a0.storage_)) (a0.storage_).length)] false)], 1⟩
noncomputable def F_hull_ship_loaded : (Thull_ship × (List Int)) → Option (Int × Int) := fun x => match x with
  | (a0, a1) =>
    (loopC (L_hull_ship_loaded_1 a1 a0).step (0, a0.moment_, 0)).bind fun e => match e with
    | (s8, s9) =>
      some (s8, s9)

noncomputable def F_numbers_Down : (Int × Int) → Option (Int) := fun x => match x with
  | (a0, a1) =>
    (nz? (a1)).bind fun _ =>
    bif (decide ((Int.tmod a0 a1) < 0)) then
      (nz? (a1)).bind fun _ =>
      some (wr ((wr (Int.tdiv a0 a1)) - 1))
    else
      (nz? (a1)).bind fun _ =>
      some (wr (Int.tdiv a0 a1))

noncomputable def F_numbers_Up : (Int × Int) → Option (Int) := fun x => match x with
  | (a0, a1) =>
    (F_numbers_Down ((wr (0 - a0)), a1)).bind fun y1 =>
    some (wr (0 - y1))

noncomputable def L_sort_Search_1 (a1 : (Int → Option Bool)) (g : FuncId) (caps : List V) : LoopD (Int × Int) (Int) (Unit) where
  step := fun s => match s with
    | (s1, s2) =>
      bif (decide (s1 < s2)) then
        (a1 ((wr ((Int.fdiv ((IntKind.wrap .u64 ((wr (s1 + s2))))) 2))))).bind fun y4 =>
        bif (!y4) then
          some (.inl ((wr ((wr ((Int.fdiv ((IntKind.wrap .u64 ((wr (s1 + s2))))) 2))) + 1)), s2))
        else
          some (.inl (s1, (wr ((Int.fdiv ((IntKind.wrap .u64 ((wr (s1 + s2))))) 2)))))
      else
        some (.inr s1)
  at_ := fun s gh => match s, gh with
    | (s1, s2), () => ⟨[(1, (V.fn g caps)), (4, (V.v (.int .i64 (0)))), (5, (V.v (.int .i64 (s1)))), (6, (V.v (.int .i64 (s2))))], [], 0⟩
noncomputable def F_sort_Search : (Int × ((Int → Option Bool)) × FuncId × (List V)) → Option (Int) := fun x => match x with
  | (a0, a1, g, caps) =>
    (loopC (L_sort_Search_1 a1 g caps).step (0, a0)).bind fun e => match e with
    | s5 =>
      some s5

noncomputable def F_hull_ship_mean_1 : (Int × Thull_ship × Int) → Option (Bool) := fun x => match x with
  | (a0, c0, c1) =>
    (F_hull_ship_volume (c0, a0)).bind fun y1 =>
    some (decide (y1 ≥ c1))

noncomputable def F_hull_ship_mean : (Thull_ship × Int × Int) → Option (Int) := fun x => match x with
  | (a0, a1, a2) =>
    (F_numbers_Up ((wr ((wr (a0.mass_ + (wr (a1 * a0.Hull.Lot)))) * 1000)), a2)).bind fun y1 =>
    (F_sort_Search ((wr (a0.limit_ + 1)), (fun q => F_hull_ship_mean_1 (q, a0, y1)), 119, [(V.fptr [(V.v (.int .i64 (a0.Hull.Lot))), (V.sl (recs eTHullSection (a0.Hull.Sections)) (a0.Hull.Sections).length), (V.v (.int .i64 (a0.limit_))), (V.v (.int .i64 (a0.trim_))), (V.v (.int .i64 (a0.mass_))), (V.v (.int .i64 (a0.moment_))), (V.sl (recs eThull_hold (a0.storage_)) (a0.storage_).length)]), (V.fptr [(V.v (.int .i64 (y1)))])])).bind fun y2 =>
    some y2

noncomputable def F_hull_withoutSign : (Int) → Option (Int) := fun x => match x with
  | (a0) =>
    some (minmax true a0 (wr (0 - a0)))

noncomputable def F_cmp_isNaN_int : (Int) → Option (Bool) := fun x => match x with
  | (a0) =>
    some (a0 != a0)

noncomputable def F_cmp_Compare_int : (Int × Int) → Option (Int) := fun x => match x with
  | (a0, a1) =>
    (F_cmp_isNaN_int (a0)).bind fun y1 =>
    (F_cmp_isNaN_int (a1)).bind fun y2 =>
    bif y1 then
      bif y2 then
        some 0
      else
        some (-1)
    else
      bif y2 then
        some 1
      else
        bif (decide (a0 < a1)) then
          some (-1)
        else
          bif (decide (a0 > a1)) then
            some 1
          else
            some 0

noncomputable def F_hull_ship_float : (Thull_ship × (List Int) × TBounds) → Option (THullFloat × Int) := fun x => match x with
  | (a0, a1, a2) =>
    (F_hull_ship_loaded (a0, a1)).bind fun y1 =>
    (F_hull_ship_mean (a0, y1.1, a2.High)).bind fun y2 =>
    (F_hull_ship_mean (a0, y1.1, a2.Low)).bind fun y3 =>
    (F_hull_withoutSign (y1.2)).bind fun y4 =>
    (F_numbers_Up (y4, (wr (4 * a0.trim_)))).bind fun y5 =>
    bif (decide ((wr (y3 + y5)) > a0.limit_)) then
      some ((⟨(⟨0, 0⟩ : TBounds), (⟨0, 0⟩ : TBounds), 0⟩ : THullFloat), 8)
    else
      (F_cmp_Compare_int (y1.2, 0)).bind fun y6 =>
      some ((⟨(⟨y2, y3⟩ : TBounds), (⟨(wr (y2 + y5)), (wr (y3 + y5))⟩ : TBounds), y6⟩ : THullFloat), 0)

noncomputable def F_hull_Float : (THull × (List Int) × TBounds) → Option (THullFloat × Int) := fun x => match x with
  | (a0, a1, a2) =>
    (F_hull_launch (a0)).bind fun y1 =>
    bif (y1.2 != 0) then
      some ((⟨(⟨0, 0⟩ : TBounds), (⟨0, 0⟩ : TBounds), 0⟩ : THullFloat), y1.2)
    else
      (F_hull_ship_checkLoad (y1.1, a1)).bind fun y2 =>
      bif (y2 != 0) then
        some ((⟨(⟨0, 0⟩ : TBounds), (⟨0, 0⟩ : TBounds), 0⟩ : THullFloat), y2)
      else
        (F_hull_validDensity (a2)).bind fun y3 =>
        bif (!y3) then
          some ((⟨(⟨0, 0⟩ : TBounds), (⟨0, 0⟩ : TBounds), 0⟩ : THullFloat), 2)
        else
          (F_hull_ship_float (y1.1, a1, a2)).bind fun y4 =>
          some (y4.1, y4.2)

noncomputable def L_thalweglaw02_same_1 (s1 : Int) (a0 : THull) (a1 : THull) (x17 : THullSection) (x16 : THullSection) : LoopD (Int) (Unit ⊕ Bool) (Unit) where
  step := fun s => match s with
    | s18 =>
      bif (decide (s18 < ((x16.Curve).length : Int))) then
        (idx? (x16.Curve) (s18)).bind fun x21 =>
        (idx? (x17.Curve) (s18)).bind fun x22 =>
        bif (!(x21.Draft == x22.Draft && (x21.Volume == x22.Volume && true))) then
          some (.inr (.inr false))
        else
          some (.inl (wr (s18 + 1)))
      else
        some (.inr (.inl ()))
  at_ := fun s gh => match s, gh with
    | s18, () => ⟨[(2, (V.box 0 0)), (3, (V.box 1 0)), (4, (V.v (.bool (false)))), (5, (V.v (.int .i64 (s1)))), (6, (V.box 17 0)), (7, (V.box 18 0)), (8, (V.v (.int .i64 (s18))))], [(0, Bx.var [(V.v (.int .i64 (a0.Lot))), (V.sl (recs eTHullSection (a0.Sections)) (a0.Sections).length)] false), (1, Bx.var [(V.v (.int .i64 (a1.Lot))), (V.sl (recs eTHullSection (a1.Sections)) (a1.Sections).length)] false), (17, Bx.var [(V.v (.int .i64 (x16.Length))), (V.v (.int .i64 (x16.Light))), (V.v (.int .i64 (x16.Trim))), (V.sl (recs eTHullRow (x16.Curve)) (x16.Curve).length), (V.sl (recs eTHullHold (x16.Holds)) (x16.Holds).length)] false), (18, Bx.var [(V.v (.int .i64 (x17.Length))), (V.v (.int .i64 (x17.Light))), (V.v (.int .i64 (x17.Trim))), (V.sl (recs eTHullRow (x17.Curve)) (x17.Curve).length), (V.sl (recs eTHullHold (x17.Holds)) (x17.Holds).length)] false)], 19⟩
noncomputable def L_thalweglaw02_same_2 (s1 : Int) (a0 : THull) (a1 : THull) (x17 : THullSection) (x16 : THullSection) : LoopD (Int) (Unit ⊕ Bool) (Unit) where
  step := fun s => match s with
    | s23 =>
      bif (decide (s23 < ((x16.Holds).length : Int))) then
        (idx? (x16.Holds) (s23)).bind fun x26 =>
        (idx? (x17.Holds) (s23)).bind fun x27 =>
        bif (!(x26.At == x27.At && (x26.Lots == x27.Lots && true))) then
          some (.inr (.inr false))
        else
          some (.inl (wr (s23 + 1)))
      else
        some (.inr (.inl ()))
  at_ := fun s gh => match s, gh with
    | s23, () => ⟨[(2, (V.box 0 0)), (3, (V.box 1 0)), (4, (V.v (.bool (false)))), (5, (V.v (.int .i64 (s1)))), (6, (V.box 17 0)), (7, (V.box 18 0)), (9, (V.v (.int .i64 (s23))))], [(0, Bx.var [(V.v (.int .i64 (a0.Lot))), (V.sl (recs eTHullSection (a0.Sections)) (a0.Sections).length)] false), (1, Bx.var [(V.v (.int .i64 (a1.Lot))), (V.sl (recs eTHullSection (a1.Sections)) (a1.Sections).length)] false), (17, Bx.var [(V.v (.int .i64 (x16.Length))), (V.v (.int .i64 (x16.Light))), (V.v (.int .i64 (x16.Trim))), (V.sl (recs eTHullRow (x16.Curve)) (x16.Curve).length), (V.sl (recs eTHullHold (x16.Holds)) (x16.Holds).length)] false), (18, Bx.var [(V.v (.int .i64 (x17.Length))), (V.v (.int .i64 (x17.Light))), (V.v (.int .i64 (x17.Trim))), (V.sl (recs eTHullRow (x17.Curve)) (x17.Curve).length), (V.sl (recs eTHullHold (x17.Holds)) (x17.Holds).length)] false)], 19⟩
noncomputable def L_thalweglaw02_same_3 (a0 : THull) (a1 : THull) : LoopD (Int) (Unit ⊕ Bool) (Unit) where
  step := fun s => match s with
    | s1 =>
      bif (decide (s1 < ((a0.Sections).length : Int))) then
        (idx? (a0.Sections) (s1)).bind fun x16 =>
        (idx? (a1.Sections) (s1)).bind fun x17 =>
        bif (x16.Length != x17.Length) then
          some (.inr (.inr false))
        else
          bif (x16.Light != x17.Light) then
            some (.inr (.inr false))
          else
            bif (x16.Trim != x17.Trim) then
              some (.inr (.inr false))
            else
              bif (((x16.Curve).length : Int) != ((x17.Curve).length : Int)) then
                some (.inr (.inr false))
              else
                bif (((x16.Holds).length : Int) != ((x17.Holds).length : Int)) then
                  some (.inr (.inr false))
                else
                  (loopC (L_thalweglaw02_same_1 s1 a0 a1 x17 x16).step 0).bind fun e => match e with
                  | (.inl ()) =>
                    (loopC (L_thalweglaw02_same_2 s1 a0 a1 x17 x16).step 0).bind fun e => match e with
                    | (.inl ()) =>
                      some (.inl (wr (s1 + 1)))
                    | (.inr r28) =>
                      some (.inr (.inr r28))
                  | (.inr r29) =>
                    some (.inr (.inr r29))
      else
        some (.inr (.inl ()))
  at_ := fun s gh => match s, gh with
    | s1, () => ⟨[(2, (V.box 0 0)), (3, (V.box 1 0)), (4, (V.v (.bool (false)))), (5, (V.v (.int .i64 (s1))))], [(0, Bx.var [(V.v (.int .i64 (a0.Lot))), (V.sl (recs eTHullSection (a0.Sections)) (a0.Sections).length)] false), (1, Bx.var [(V.v (.int .i64 (a1.Lot))), (V.sl (recs eTHullSection (a1.Sections)) (a1.Sections).length)] false)], 2⟩
noncomputable def F_thalweglaw02_same : (THull × THull) → Option (Bool) := fun x => match x with
  | (a0, a1) =>
    bif (a0.Lot != a1.Lot) then
      some false
    else
      bif (((a0.Sections).length : Int) != ((a1.Sections).length : Int)) then
        some false
      else
        (loopC (L_thalweglaw02_same_3 a0 a1).step 0).bind fun e => match e with
        | (.inl ()) =>
          some true
        | (.inr r30) =>
          some r30

noncomputable def L_thalweglaw02_equal_1 (a0 : List Int) (a1 : List Int) : LoopD (Int) (Unit ⊕ Bool) (Unit) where
  step := fun s => match s with
    | s1 =>
      bif (decide (s1 < ((a0).length : Int))) then
        (idx? (a0) (s1)).bind fun x4 =>
        (idx? (a1) (s1)).bind fun x5 =>
        bif (x4 != x5) then
          some (.inr (.inr false))
        else
          some (.inl (wr (s1 + 1)))
      else
        some (.inr (.inl ()))
  at_ := fun s gh => match s, gh with
    | s1, () => ⟨[(0, (V.sl (recs (eI .i64) (a0)) (a0).length)), (1, (V.sl (recs (eI .i64) (a1)) (a1).length)), (4, (V.v (.bool (false)))), (5, (V.v (.int .i64 (s1))))], [], 0⟩
noncomputable def F_thalweglaw02_equal : ((List Int) × (List Int)) → Option (Bool) := fun x => match x with
  | (a0, a1) =>
    bif (((a0).length : Int) != ((a1).length : Int)) then
      some false
    else
      (loopC (L_thalweglaw02_equal_1 a0 a1).step 0).bind fun e => match e with
      | (.inl ()) =>
        some true
      | (.inr r6) =>
        some r6

noncomputable def L_thalwegref02_Holds_1 (s1 : Int) (s2 : Int) (a0 : THull) : LoopD (Int × (List THullHold)) (((List THullHold))) (Unit) where
  step := fun s => match s with
    | (s16, s17) =>
      (idx? (a0.Sections) (s2)).bind fun x22 =>
      bif (decide (s16 < ((x22.Holds).length : Int))) then
        (idx? (a0.Sections) (s2)).bind fun x23 =>
        (idx? (x23.Holds) (s16)).bind fun x24 =>
        (app? (s17) (([(⟨(wr (s1 + x24.At)), x24.Lots⟩ : THullHold)] : List THullHold)) 16).bind fun l25 =>
        some (.inl ((wr (s16 + 1)), l25))
      else
        some (.inr s17)
  at_ := fun s gh => match s, gh with
    | (s16, s17), () => ⟨[(1, (V.box 0 0)), (2, (V.v (.slice none 0 0))), (3, (V.osl 2 (s17).length)), (4, (V.v (.int .i64 (s1)))), (5, (V.v (.int .i64 (s2)))), (6, (V.v (.int .i64 (s16))))], [(0, Bx.var [(V.v (.int .i64 (a0.Lot))), (V.sl (recs eTHullSection (a0.Sections)) (a0.Sections).length)] false), (2, Bx.row 75 2 (recs eTHullHold (s17)) 0)], 3⟩
noncomputable def L_thalwegref02_Holds_2 (a0 : THull) : LoopD (Int × Int × (List THullHold)) (((List THullHold))) (Unit) where
  step := fun s => match s with
    | (s1, s2, s3) =>
      bif (decide (s2 < ((a0.Sections).length : Int))) then
        (loopC (L_thalwegref02_Holds_1 s1 s2 a0).step (0, s3)).bind fun e => match e with
        | s26 =>
          (idx? (a0.Sections) (s2)).bind fun x27 =>
          some (.inl ((wr (s1 + x27.Length)), (wr (s2 + 1)), s26))
      else
        some (.inr s3)
  at_ := fun s gh => match s, gh with
    | (s1, s2, s3), () => ⟨[(1, (V.box 0 0)), (2, (V.v (.slice none 0 0))), (3, (V.osl 2 (s3).length)), (4, (V.v (.int .i64 (s1)))), (5, (V.v (.int .i64 (s2))))], [(0, Bx.var [(V.v (.int .i64 (a0.Lot))), (V.sl (recs eTHullSection (a0.Sections)) (a0.Sections).length)] false), (2, Bx.row 75 2 (recs eTHullHold (s3)) 0)], 3⟩
noncomputable def F_thalwegref02_Holds : (THull) → Option (List THullHold) := fun x => match x with
  | (a0) =>
    (loopC (L_thalwegref02_Holds_2 a0).step (0, 0, ([] : List THullHold))).bind fun e => match e with
    | s28 =>
      some s28

noncomputable def F_thalwegref01_In : (Int × Int × Int) → Option (Bool) := fun x => match x with
  | (a0, a1, a2) =>
    bif (decide (a0 ≥ a1)) then
      some (decide (a0 ≤ a2))
    else
      some false

noncomputable def L_thalwegref02_Section_1 (a0 : THullSection) : LoopD (Int) (Unit ⊕ Bool) (Unit) where
  step := fun s => match s with
    | s5 =>
      bif (decide (s5 < ((a0.Curve).length : Int))) then
        (idx? (a0.Curve) (s5)).bind fun x19 =>
        (F_thalwegref01_In (x19.Draft, 0, 1000)).bind fun y20 =>
        bif (!y20) then
          some (.inr (.inr false))
        else
          (idx? (a0.Curve) (s5)).bind fun x21 =>
          (F_thalwegref01_In (x21.Volume, 0, 100000)).bind fun y22 =>
          bif (!y22) then
            some (.inr (.inr false))
          else
            bif (s5 == 0) then
              (idx? (a0.Curve) (s5)).bind fun x23 =>
              bif (!(x23.Draft == 0 && (x23.Volume == 0 && true))) then
                some (.inr (.inr false))
              else
                bif (decide (s5 > 0)) then
                  (idx? (a0.Curve) (s5)).bind fun x24 =>
                  (idx? (a0.Curve) ((wr (s5 - 1)))).bind fun x25 =>
                  bif (decide (x24.Draft ≤ x25.Draft)) then
                    some (.inr (.inr false))
                  else
                    (idx? (a0.Curve) (s5)).bind fun x26 =>
                    (idx? (a0.Curve) ((wr (s5 - 1)))).bind fun x27 =>
                    bif (decide (x26.Volume ≤ x27.Volume)) then
                      some (.inr (.inr false))
                    else
                      some (.inl (wr (s5 + 1)))
                else
                  some (.inl (wr (s5 + 1)))
            else
              bif (decide (s5 > 0)) then
                (idx? (a0.Curve) (s5)).bind fun x28 =>
                (idx? (a0.Curve) ((wr (s5 - 1)))).bind fun x29 =>
                bif (decide (x28.Draft ≤ x29.Draft)) then
                  some (.inr (.inr false))
                else
                  (idx? (a0.Curve) (s5)).bind fun x30 =>
                  (idx? (a0.Curve) ((wr (s5 - 1)))).bind fun x31 =>
                  bif (decide (x30.Volume ≤ x31.Volume)) then
                    some (.inr (.inr false))
                  else
                    some (.inl (wr (s5 + 1)))
              else
                some (.inl (wr (s5 + 1)))
      else
        some (.inr (.inl ()))
  at_ := fun s gh => match s, gh with
    | s5, () => ⟨[(1, (V.box 0 0)), (2, (V.v (.bool (false)))), (3, (V.v (.int .i64 (s5))))], [(0, Bx.var [(V.v (.int .i64 (a0.Length))), (V.v (.int .i64 (a0.Light))), (V.v (.int .i64 (a0.Trim))), (V.sl (recs eTHullRow (a0.Curve)) (a0.Curve).length), (V.sl (recs eTHullHold (a0.Holds)) (a0.Holds).length)] false)], 1⟩
noncomputable def L_thalwegref02_Section_2 (a0 : THullSection) : LoopD (Int) (Unit ⊕ Bool) (Unit) where
  step := fun s => match s with
    | s32 =>
      bif (decide (s32 < ((a0.Holds).length : Int))) then
        (idx? (a0.Holds) (s32)).bind fun x37 =>
        (F_thalwegref01_In (x37.At, 0, a0.Length)).bind fun y38 =>
        bif (!y38) then
          some (.inr (.inr false))
        else
          (idx? (a0.Holds) (s32)).bind fun x39 =>
          (F_thalwegref01_In (x39.Lots, 0, 20)).bind fun y40 =>
          bif (!y40) then
            some (.inr (.inr false))
          else
            some (.inl (wr (s32 + 1)))
      else
        some (.inr (.inl ()))
  at_ := fun s gh => match s, gh with
    | s32, () => ⟨[(1, (V.box 0 0)), (2, (V.v (.bool (false)))), (4, (V.v (.int .i64 (s32))))], [(0, Bx.var [(V.v (.int .i64 (a0.Length))), (V.v (.int .i64 (a0.Light))), (V.v (.int .i64 (a0.Trim))), (V.sl (recs eTHullRow (a0.Curve)) (a0.Curve).length), (V.sl (recs eTHullHold (a0.Holds)) (a0.Holds).length)] false)], 1⟩
noncomputable def F_thalwegref02_Section : (THullSection) → Option (Bool) := fun x => match x with
  | (a0) =>
    (F_thalwegref01_In (a0.Length, 1, 100)).bind fun y1 =>
    bif (!y1) then
      some false
    else
      (F_thalwegref01_In (a0.Light, 0, 10000)).bind fun y2 =>
      bif (!y2) then
        some false
      else
        (F_thalwegref01_In (a0.Trim, 1, 100000)).bind fun y3 =>
        bif (!y3) then
          some false
        else
          (F_thalwegref01_In (((a0.Curve).length : Int), 2, 20)).bind fun y4 =>
          bif (!y4) then
            some false
          else
            (loopC (L_thalwegref02_Section_1 a0).step 0).bind fun e => match e with
            | (.inl ()) =>
              (loopC (L_thalwegref02_Section_2 a0).step 0).bind fun e => match e with
              | (.inl ()) =>
                some true
              | (.inr r41) =>
                some r41
            | (.inr r42) =>
              some r42

noncomputable def L_thalwegref02_Length_1 (a0 : THull) : LoopD (Int × Int) (Int) (Unit) where
  step := fun s => match s with
    | (s1, s2) =>
      bif (decide (s2 < ((a0.Sections).length : Int))) then
        (idx? (a0.Sections) (s2)).bind fun x4 =>
        some (.inl ((wr (s1 + x4.Length)), (wr (s2 + 1))))
      else
        some (.inr s1)
  at_ := fun s gh => match s, gh with
    | (s1, s2), () => ⟨[(1, (V.box 0 0)), (2, (V.v (.int .i64 (0)))), (3, (V.v (.int .i64 (s1)))), (4, (V.v (.int .i64 (s2))))], [(0, Bx.var [(V.v (.int .i64 (a0.Lot))), (V.sl (recs eTHullSection (a0.Sections)) (a0.Sections).length)] false)], 1⟩
noncomputable def F_thalwegref02_Length : (THull) → Option (Int) := fun x => match x with
  | (a0) =>
    (loopC (L_thalwegref02_Length_1 a0).step (0, 0)).bind fun e => match e with
    | s5 =>
      some s5

noncomputable def L_thalwegref02_Hull_1 (a0 : THull) : LoopD (Int) (Unit ⊕ Bool) (Unit) where
  step := fun s => match s with
    | s3 =>
      bif (decide (s3 < ((a0.Sections).length : Int))) then
        (idx? (a0.Sections) (s3)).bind fun x6 =>
        (F_thalwegref02_Section (x6)).bind fun y7 =>
        bif (!y7) then
          some (.inr (.inr false))
        else
          some (.inl (wr (s3 + 1)))
      else
        some (.inr (.inl ()))
  at_ := fun s gh => match s, gh with
    | s3, () => ⟨[(1, (V.box 0 0)), (2, (V.v (.bool (false)))), (3, (V.v (.int .i64 (s3))))], [(0, Bx.var [(V.v (.int .i64 (a0.Lot))), (V.sl (recs eTHullSection (a0.Sections)) (a0.Sections).length)] false)], 1⟩
noncomputable def F_thalwegref02_Hull : (THull) → Option (Bool) := fun x => match x with
  | (a0) =>
    (F_thalwegref01_In (a0.Lot, 1, 1000)).bind fun y1 =>
    bif (!y1) then
      some false
    else
      (F_thalwegref01_In (((a0.Sections).length : Int), 1, 6)).bind fun y2 =>
      bif (!y2) then
        some false
      else
        (loopC (L_thalwegref02_Hull_1 a0).step 0).bind fun e => match e with
        | (.inl ()) =>
          (F_thalwegref02_Length (a0)).bind fun y8 =>
          bif (decide (y8 ≤ 200)) then
            (F_thalwegref02_Holds (a0)).bind fun y9 =>
            some (decide (((y9).length : Int) ≤ 4))
          else
            some false
        | (.inr r10) =>
          some r10

noncomputable def L_thalwegref02_Limit_1 (a0 : THull) : LoopD (Int × Int) (Int) (Unit) where
  step := fun s => match s with
    | (s1, s2) =>
      bif (decide (s2 < ((a0.Sections).length : Int))) then
        (idx? (a0.Sections) (s2)).bind fun x5 =>
        (idx? (x5.Curve) ((wr (((x5.Curve).length : Int) - 1)))).bind fun x6 =>
        some (.inl ((minmax false s1 x6.Draft), (wr (s2 + 1))))
      else
        some (.inr s1)
  at_ := fun s gh => match s, gh with
    | (s1, s2), () => ⟨[(1, (V.box 0 0)), (2, (V.v (.int .i64 (0)))), (3, (V.v (.int .i64 (s1)))), (4, (V.v (.int .i64 (s2))))], [(0, Bx.var [(V.v (.int .i64 (a0.Lot))), (V.sl (recs eTHullSection (a0.Sections)) (a0.Sections).length)] false)], 1⟩
noncomputable def F_thalwegref02_Limit : (THull) → Option (Int) := fun x => match x with
  | (a0) =>
    (loopC (L_thalwegref02_Limit_1 a0).step (1000, 0)).bind fun e => match e with
    | s7 =>
      some s7

noncomputable def L_thalwegref02_Volume_1 (a1 : Int) (s1 : Int) (s2 : Int) (x10 : THullSection) (a0 : THull) : LoopD (Int) (Int) (Unit) where
  step := fun s => match s with
    | s11 =>
      (idx? (x10.Curve) (s11)).bind fun x13 =>
      bif (decide (x13.Draft < a1)) then
        some (.inl (wr (s11 + 1)))
      else
        some (.inr s11)
  at_ := fun s gh => match s, gh with
    | s11, () => ⟨[(1, (V.v (.int .i64 (a1)))), (2, (V.box 0 0)), (4, (V.v (.int .i64 (0)))), (5, (V.v (.int .i64 (s1)))), (6, (V.v (.int .i64 (s2)))), (7, (V.sl (recs eTHullRow (x10.Curve)) (x10.Curve).length)), (8, (V.v (.int .i64 (s11))))], [(0, Bx.var [(V.v (.int .i64 (a0.Lot))), (V.sl (recs eTHullSection (a0.Sections)) (a0.Sections).length)] false)], 1⟩
noncomputable def L_thalwegref02_Volume_2 (a1 : Int) (a0 : THull) : LoopD (Int × Int) (Int) (Unit) where
  step := fun s => match s with
    | (s1, s2) =>
      bif (decide (s2 < ((a0.Sections).length : Int))) then
        (idx? (a0.Sections) (s2)).bind fun x10 =>
        (loopC (L_thalwegref02_Volume_1 a1 s1 s2 x10 a0).step 1).bind fun e => match e with
        | s14 =>
          (idx? (x10.Curve) ((wr (s14 - 1)))).bind fun x15 =>
          (idx? (x10.Curve) (s14)).bind fun x16 =>
          (nz? ((wr (x16.Draft - x15.Draft)))).bind fun _ =>
          some (.inl ((wr (s1 + (wr (x15.Volume + (wr (Int.tdiv (wr ((wr (a1 - x15.Draft)) * (wr (x16.Volume - x15.Volume)))) (wr (x16.Draft - x15.Draft)))))))), (wr (s2 + 1))))
      else
        some (.inr s1)
  at_ := fun s gh => match s, gh with
    | (s1, s2), () => ⟨[(1, (V.v (.int .i64 (a1)))), (2, (V.box 0 0)), (4, (V.v (.int .i64 (0)))), (5, (V.v (.int .i64 (s1)))), (6, (V.v (.int .i64 (s2))))], [(0, Bx.var [(V.v (.int .i64 (a0.Lot))), (V.sl (recs eTHullSection (a0.Sections)) (a0.Sections).length)] false)], 1⟩
noncomputable def F_thalwegref02_Volume : (THull × Int) → Option (Int) := fun x => match x with
  | (a0, a1) =>
    (loopC (L_thalwegref02_Volume_2 a1 a0).step (0, 0)).bind fun e => match e with
    | s17 =>
      some s17

noncomputable def F_thalwegref01_Valid : (TBounds × Int × Int) → Option (Bool) := fun x => match x with
  | (a0, a1, a2) =>
    (F_thalwegref01_In (a0.Low, a1, a2)).bind fun y1 =>
    bif y1 then
      (F_thalwegref01_In (a0.High, a0.Low, a2)).bind fun y2 =>
      some y2
    else
      some false

noncomputable def F_thalwegref02_Density : (TBounds) → Option (Bool) := fun x => match x with
  | (a0) =>
    (F_thalwegref01_Valid (a0, 900, 1100)).bind fun y1 =>
    some y1

noncomputable def L_thalwegref02_Load_1 (a1 : List Int) (y2 : List THullHold) (a2 : TBounds) : LoopD (Int) (Unit ⊕ Int) (Unit) where
  step := fun s => match s with
    | s3 =>
      bif (decide (s3 < ((a1).length : Int))) then
        (idx? (a1) (s3)).bind fun x7 =>
        (idx? (y2) (s3)).bind fun x8 =>
        (F_thalwegref01_In (x7, 0, x8.Lots)).bind fun y9 =>
        bif (!y9) then
          some (.inr (.inr 3))
        else
          some (.inl (wr (s3 + 1)))
      else
        some (.inr (.inl ()))
  at_ := fun s gh => match s, gh with
    | s3, () => ⟨[(1, (V.sl (recs (eI .i64) (a1)) (a1).length)), (5, (V.box 1 0)), (6, (V.v (.int .i64 (0)))), (7, (V.sl (recs eTHullHold (y2)) (y2).length)), (8, (V.v (.int .i64 (s3))))], [(1, Bx.var [(V.v (.int .i64 (a2.Low))), (V.v (.int .i64 (a2.High)))] false)], 2⟩
noncomputable def F_thalwegref02_Load : (THull × (List Int) × TBounds) → Option (Int) := fun x => match x with
  | (a0, a1, a2) =>
    (F_thalwegref02_Hull (a0)).bind fun y1 =>
    bif (!y1) then
      some 2
    else
      (F_thalwegref02_Holds (a0)).bind fun y2 =>
      bif (((a1).length : Int) != ((y2).length : Int)) then
        some 4
      else
        (loopC (L_thalwegref02_Load_1 a1 y2 a2).step 0).bind fun e => match e with
        | (.inl ()) =>
          (F_thalwegref02_Density (a2)).bind fun y10 =>
          bif (!y10) then
            some 2
          else
            some 0
        | (.inr r11) =>
          some r11

noncomputable def F_thalwegref01_Ceil : (Int × Int) → Option (Int) := fun x => match x with
  | (a0, a1) =>
    (nz? (a1)).bind fun _ =>
    bif (decide ((wr ((wr (Int.tdiv a0 a1)) * a1)) < a0)) then
      some (wr ((wr (Int.tdiv a0 a1)) + 1))
    else
      some (wr (Int.tdiv a0 a1))

noncomputable def L_thalwegref02_Mass_1 (a1 : List Int) (a0 : THull) : LoopD (Int × Int) (Int) (Unit) where
  step := fun s => match s with
    | (s1, s2) =>
      bif (decide (s2 < ((a0.Sections).length : Int))) then
        (idx? (a0.Sections) (s2)).bind fun x4 =>
        some (.inl ((wr (s1 + x4.Light)), (wr (s2 + 1))))
      else
        some (.inr s1)
  at_ := fun s gh => match s, gh with
    | (s1, s2), () => ⟨[(1, (V.sl (recs (eI .i64) (a1)) (a1).length)), (2, (V.box 0 0)), (4, (V.v (.int .i64 (0)))), (5, (V.v (.int .i64 (s1)))), (6, (V.v (.int .i64 (s2))))], [(0, Bx.var [(V.v (.int .i64 (a0.Lot))), (V.sl (recs eTHullSection (a0.Sections)) (a0.Sections).length)] false)], 1⟩
noncomputable def L_thalwegref02_Mass_2 (a1 : List Int) (a0 : THull) : LoopD (Int × Int) (Int) (Unit) where
  step := fun s => match s with
    | (s6, s7) =>
      bif (decide (s7 < ((a1).length : Int))) then
        (idx? (a1) (s7)).bind fun x9 =>
        some (.inl ((wr (s6 + (wr (x9 * a0.Lot)))), (wr (s7 + 1))))
      else
        some (.inr s6)
  at_ := fun s gh => match s, gh with
    | (s6, s7), () => ⟨[(1, (V.sl (recs (eI .i64) (a1)) (a1).length)), (2, (V.box 0 0)), (4, (V.v (.int .i64 (0)))), (5, (V.v (.int .i64 (s6)))), (7, (V.v (.int .i64 (s7))))], [(0, Bx.var [(V.v (.int .i64 (a0.Lot))), (V.sl (recs eTHullSection (a0.Sections)) (a0.Sections).length)] false)], 1⟩
noncomputable def F_thalwegref02_Mass : (THull × (List Int)) → Option (Int) := fun x => match x with
  | (a0, a1) =>
    (loopC (L_thalwegref02_Mass_1 a1 a0).step (0, 0)).bind fun e => match e with
    | s5 =>
      (loopC (L_thalwegref02_Mass_2 a1 a0).step (s5, 0)).bind fun e => match e with
      | s10 =>
        some s10

noncomputable def L_thalwegref02_Mean_1 (y2 : Int) (a0 : THull) : LoopD (Int) (Unit ⊕ Int) (Unit) where
  step := fun s => match s with
    | s3 =>
      (F_thalwegref02_Limit (a0)).bind fun y6 =>
      bif (decide (s3 ≤ y6)) then
        (F_thalwegref02_Volume (a0, s3)).bind fun y7 =>
        bif (decide (y7 ≥ y2)) then
          some (.inr (.inr s3))
        else
          some (.inl (wr (s3 + 1)))
      else
        some (.inr (.inl ()))
  at_ := fun s gh => match s, gh with
    | s3, () => ⟨[(3, (V.box 0 0)), (6, (V.v (.int .i64 (0)))), (7, (V.v (.int .i64 (y2)))), (8, (V.v (.int .i64 (s3))))], [(0, Bx.var [(V.v (.int .i64 (a0.Lot))), (V.sl (recs eTHullSection (a0.Sections)) (a0.Sections).length)] false)], 1⟩
noncomputable def F_thalwegref02_Mean : (THull × (List Int) × Int) → Option (Int) := fun x => match x with
  | (a0, a1, a2) =>
    (F_thalwegref02_Mass (a0, a1)).bind fun y1 =>
    (F_thalwegref01_Ceil ((wr (y1 * 1000)), a2)).bind fun y2 =>
    (loopC (L_thalwegref02_Mean_1 y2 a0).step 0).bind fun e => match e with
    | (.inl ()) =>
      some (-1)
    | (.inr r8) =>
      some r8

noncomputable def L_thalwegref02_Moment_1 (a1 : List Int) (y1 : Int) (y2 : List THullHold) (a0 : THull) : LoopD (Int × Int × Int) (Int) (Unit) where
  step := fun s => match s with
    | (s3, s4, s5) =>
      bif (decide (s5 < ((a0.Sections).length : Int))) then
        (idx? (a0.Sections) (s5)).bind fun x7 =>
        some (.inl ((wr (s3 + (wr (x7.Light * (wr ((wr ((wr (2 * s4)) + x7.Length)) - y1)))))), (wr (s4 + x7.Length)), (wr (s5 + 1))))
      else
        some (.inr s3)
  at_ := fun s gh => match s, gh with
    | (s3, s4, s5), () => ⟨[(1, (V.sl (recs (eI .i64) (a1)) (a1).length)), (2, (V.box 0 0)), (4, (V.v (.int .i64 (0)))), (5, (V.v (.int .i64 (s3)))), (6, (V.v (.int .i64 (s4)))), (7, (V.v (.int .i64 (y1)))), (8, (V.sl (recs eTHullHold (y2)) (y2).length)), (9, (V.v (.int .i64 (s5))))], [(0, Bx.var [(V.v (.int .i64 (a0.Lot))), (V.sl (recs eTHullSection (a0.Sections)) (a0.Sections).length)] false)], 1⟩
noncomputable def L_thalwegref02_Moment_2 (a1 : List Int) (y1 : Int) (y2 : List THullHold) (a0 : THull) : LoopD (Int × Int) (Int) (Unit) where
  step := fun s => match s with
    | (s9, s10) =>
      bif (decide (s10 < ((a1).length : Int))) then
        (idx? (a1) (s10)).bind fun x13 =>
        (idx? (y2) (s10)).bind fun x14 =>
        some (.inl ((wr (s9 + (wr ((wr (x13 * a0.Lot)) * (wr ((wr (2 * x14.At)) - y1)))))), (wr (s10 + 1))))
      else
        some (.inr s9)
  at_ := fun s gh => match s, gh with
    | (s9, s10), () => ⟨[(1, (V.sl (recs (eI .i64) (a1)) (a1).length)), (2, (V.box 0 0)), (4, (V.v (.int .i64 (0)))), (5, (V.v (.int .i64 (s9)))), (7, (V.v (.int .i64 (y1)))), (8, (V.sl (recs eTHullHold (y2)) (y2).length)), (11, (V.v (.int .i64 (s10))))], [(0, Bx.var [(V.v (.int .i64 (a0.Lot))), (V.sl (recs eTHullSection (a0.Sections)) (a0.Sections).length)] false)], 1⟩
noncomputable def F_thalwegref02_Moment : (THull × (List Int)) → Option (Int) := fun x => match x with
  | (a0, a1) =>
    (F_thalwegref02_Length (a0)).bind fun y1 =>
    (F_thalwegref02_Holds (a0)).bind fun y2 =>
    (loopC (L_thalwegref02_Moment_1 a1 y1 y2 a0).step (0, 0, 0)).bind fun e => match e with
    | s8 =>
      (loopC (L_thalwegref02_Moment_2 a1 y1 y2 a0).step (s8, 0)).bind fun e => match e with
      | s15 =>
        some s15

noncomputable def L_thalwegref02_Trim_1 (y1 : Int) (a0 : THull) : LoopD (Int × Int) (Int) (Unit) where
  step := fun s => match s with
    | (s2, s3) =>
      bif (decide (s3 < ((a0.Sections).length : Int))) then
        (idx? (a0.Sections) (s3)).bind fun x5 =>
        some (.inl ((wr (s2 + x5.Trim)), (wr (s3 + 1))))
      else
        some (.inr s2)
  at_ := fun s gh => match s, gh with
    | (s2, s3), () => ⟨[(2, (V.box 0 0)), (4, (V.v (.int .i64 (0)))), (5, (V.v (.int .i64 (s2)))), (6, (V.v (.int .i64 (y1)))), (7, (V.v (.int .i64 (s3))))], [(0, Bx.var [(V.v (.int .i64 (a0.Lot))), (V.sl (recs eTHullSection (a0.Sections)) (a0.Sections).length)] false)], 1⟩
noncomputable def F_thalwegref02_Trim : (THull × (List Int)) → Option (Int) := fun x => match x with
  | (a0, a1) =>
    (F_thalwegref02_Moment (a0, a1)).bind fun y1 =>
    (loopC (L_thalwegref02_Trim_1 y1 a0).step (0, 0)).bind fun e => match e with
    | s6 =>
      (F_thalwegref01_Ceil ((minmax true y1 (wr (0 - y1))), (wr (4 * s6)))).bind fun y7 =>
      some y7

noncomputable def F_thalwegref02_Float : (THull × (List Int) × TBounds) → Option (THullFloat × Bool) := fun x => match x with
  | (a0, a1, a2) =>
    (F_thalwegref02_Mean (a0, a1, a2.High)).bind fun y1 =>
    (F_thalwegref02_Mean (a0, a1, a2.Low)).bind fun y2 =>
    (F_thalwegref02_Trim (a0, a1)).bind fun y3 =>
    (F_thalwegref02_Moment (a0, a1)).bind fun y4 =>
    bif (decide (y2 < 0)) then
      some ((⟨(⟨0, 0⟩ : TBounds), (⟨0, 0⟩ : TBounds), 0⟩ : THullFloat), false)
    else
      (F_thalwegref02_Limit (a0)).bind fun y5 =>
      bif (decide ((wr (y2 + y3)) > y5)) then
        some ((⟨(⟨0, 0⟩ : TBounds), (⟨0, 0⟩ : TBounds), 0⟩ : THullFloat), false)
      else
        bif (decide (y4 < 0)) then
          bif (decide (y4 > 0)) then
            some ((⟨(⟨y1, y2⟩ : TBounds), (⟨(wr (y1 + y3)), (wr (y2 + y3))⟩ : TBounds), 1⟩ : THullFloat), true)
          else
            some ((⟨(⟨y1, y2⟩ : TBounds), (⟨(wr (y1 + y3)), (wr (y2 + y3))⟩ : TBounds), (-1)⟩ : THullFloat), true)
        else
          bif (decide (y4 > 0)) then
            some ((⟨(⟨y1, y2⟩ : TBounds), (⟨(wr (y1 + y3)), (wr (y2 + y3))⟩ : TBounds), 1⟩ : THullFloat), true)
          else
            some ((⟨(⟨y1, y2⟩ : TBounds), (⟨(wr (y1 + y3)), (wr (y2 + y3))⟩ : TBounds), 0⟩ : THullFloat), true)

noncomputable def F_thalweglaw02_HullFloats : (Tthalweglaw02_Loaded × Int) → Option (Bool) := fun x => match x with
  | (a0, a1) =>
    (F_thalweglaw02_great (a0.Hull)).bind fun y1 =>
    bif y1 then
      (F_thalweglaw02_known ()).bind fun y2 =>
      some y2
    else
      bif (decide (((a0.Load).length : Int) > 20)) then
        (F_thalweglaw02_known ()).bind fun y3 =>
        some y3
      else
        (F_thalweglaw02_own (a0.Hull)).bind fun y4 =>
        (F_thalweglaw02_numbers (a0.Load)).bind fun y5 =>
        (F_hull_Check (y4)).bind fun y6 =>
        (F_hull_Volume (y4, a1)).bind fun y7 =>
        (F_hull_Float (y4, y5, a0.Density)).bind fun y8 =>
        (F_thalweglaw02_same (y4, a0.Hull)).bind fun y9 =>
        bif (!y9) then
          some false
        else
          (F_thalweglaw02_equal (y5, a0.Load)).bind fun y10 =>
          bif (!y10) then
            some false
          else
            (F_thalwegref02_Hull (a0.Hull)).bind fun y11 =>
            bif (!y11) then
              bif (y6 == 2) then
                bif (y7.2 == y6) then
                  bif (y8.2 == y6) then
                    bif (y7.1 == 0) then
                      bif (y8.1.Mean.Low == 0 && (y8.1.Mean.High == 0 && (y8.1.Deep.Low == 0 && (y8.1.Deep.High == 0 && (y8.1.Head == 0 && true))))) then
                        (F_thalweglaw02_known ()).bind fun y12 =>
                        some y12
                      else
                        some false
                    else
                      some false
                  else
                    some false
                else
                  some false
              else
                some false
            else
              bif (decide (a1 < 0)) then
                bif (y7.2 != 3) then
                  some false
                else
                  bif (y7.1 != 0) then
                    some false
                  else
                    (F_thalwegref02_Load (a0.Hull, a0.Load, a0.Density)).bind fun y13 =>
                    bif (y13 == 0) then
                      (F_thalwegref02_Float (a0.Hull, a0.Load, a0.Density)).bind fun y14 =>
                      bif y14.2 then
                        bif (y6 == 0) then
                          bif (y8.2 == y13) then
                            bif (y8.1.Mean.Low == y14.1.Mean.Low && (y8.1.Mean.High == y14.1.Mean.High && (y8.1.Deep.Low == y14.1.Deep.Low && (y8.1.Deep.High == y14.1.Deep.High && (y8.1.Head == y14.1.Head && true))))) then
                              (F_thalweglaw02_known ()).bind fun y15 =>
                              some y15
                            else
                              some false
                          else
                            some false
                        else
                          some false
                      else
                        bif (y6 == 0) then
                          bif (y8.2 == 8) then
                            bif (y8.1.Mean.Low == 0 && (y8.1.Mean.High == 0 && (y8.1.Deep.Low == 0 && (y8.1.Deep.High == 0 && (y8.1.Head == 0 && true))))) then
                              (F_thalweglaw02_known ()).bind fun y16 =>
                              some y16
                            else
                              some false
                          else
                            some false
                        else
                          some false
                    else
                      bif (y6 == 0) then
                        bif (y8.2 == y13) then
                          bif (y8.1.Mean.Low == 0 && (y8.1.Mean.High == 0 && (y8.1.Deep.Low == 0 && (y8.1.Deep.High == 0 && (y8.1.Head == 0 && true))))) then
                            (F_thalweglaw02_known ()).bind fun y17 =>
                            some y17
                          else
                            some false
                        else
                          some false
                      else
                        some false
              else
                (F_thalwegref02_Limit (a0.Hull)).bind fun y18 =>
                bif (decide (a1 > y18)) then
                  bif (y7.2 != 3) then
                    some false
                  else
                    bif (y7.1 != 0) then
                      some false
                    else
                      (F_thalwegref02_Load (a0.Hull, a0.Load, a0.Density)).bind fun y19 =>
                      bif (y19 == 0) then
                        (F_thalwegref02_Float (a0.Hull, a0.Load, a0.Density)).bind fun y20 =>
                        bif y20.2 then
                          bif (y6 == 0) then
                            bif (y8.2 == y19) then
                              bif (y8.1.Mean.Low == y20.1.Mean.Low && (y8.1.Mean.High == y20.1.Mean.High && (y8.1.Deep.Low == y20.1.Deep.Low && (y8.1.Deep.High == y20.1.Deep.High && (y8.1.Head == y20.1.Head && true))))) then
                                (F_thalweglaw02_known ()).bind fun y21 =>
                                some y21
                              else
                                some false
                            else
                              some false
                          else
                            some false
                        else
                          bif (y6 == 0) then
                            bif (y8.2 == 8) then
                              bif (y8.1.Mean.Low == 0 && (y8.1.Mean.High == 0 && (y8.1.Deep.Low == 0 && (y8.1.Deep.High == 0 && (y8.1.Head == 0 && true))))) then
                                (F_thalweglaw02_known ()).bind fun y22 =>
                                some y22
                              else
                                some false
                            else
                              some false
                          else
                            some false
                      else
                        bif (y6 == 0) then
                          bif (y8.2 == y19) then
                            bif (y8.1.Mean.Low == 0 && (y8.1.Mean.High == 0 && (y8.1.Deep.Low == 0 && (y8.1.Deep.High == 0 && (y8.1.Head == 0 && true))))) then
                              (F_thalweglaw02_known ()).bind fun y23 =>
                              some y23
                            else
                              some false
                          else
                            some false
                        else
                          some false
                else
                  bif (y7.2 != 0) then
                    some false
                  else
                    (F_thalwegref02_Volume (a0.Hull, a1)).bind fun y24 =>
                    bif (y7.1 != y24) then
                      some false
                    else
                      (F_thalwegref02_Load (a0.Hull, a0.Load, a0.Density)).bind fun y25 =>
                      bif (y25 == 0) then
                        (F_thalwegref02_Float (a0.Hull, a0.Load, a0.Density)).bind fun y26 =>
                        bif y26.2 then
                          bif (y6 == 0) then
                            bif (y8.2 == y25) then
                              bif (y8.1.Mean.Low == y26.1.Mean.Low && (y8.1.Mean.High == y26.1.Mean.High && (y8.1.Deep.Low == y26.1.Deep.Low && (y8.1.Deep.High == y26.1.Deep.High && (y8.1.Head == y26.1.Head && true))))) then
                                (F_thalweglaw02_known ()).bind fun y27 =>
                                some y27
                              else
                                some false
                            else
                              some false
                          else
                            some false
                        else
                          bif (y6 == 0) then
                            bif (y8.2 == 8) then
                              bif (y8.1.Mean.Low == 0 && (y8.1.Mean.High == 0 && (y8.1.Deep.Low == 0 && (y8.1.Deep.High == 0 && (y8.1.Head == 0 && true))))) then
                                (F_thalweglaw02_known ()).bind fun y28 =>
                                some y28
                              else
                                some false
                            else
                              some false
                          else
                            some false
                      else
                        bif (y6 == 0) then
                          bif (y8.2 == y25) then
                            bif (y8.1.Mean.Low == 0 && (y8.1.Mean.High == 0 && (y8.1.Deep.Low == 0 && (y8.1.Deep.High == 0 && (y8.1.Head == 0 && true))))) then
                              (F_thalweglaw02_known ()).bind fun y29 =>
                              some y29
                            else
                              some false
                          else
                            some false
                        else
                          some false
end Go.Ev
