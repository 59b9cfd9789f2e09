/- A part of the proof of HullLeast. -/
import Derived.Test.YtbmnmappihnjgabProg
import Derived.Test.YtbmnmappihnjgabW5
/- What the functions do over typed data. -/
set_option linter.unusedVariables false
set_option linter.unusedSimpArgs false
namespace Go.Ev
open Go.Proofs
set_option maxHeartbeats 8000000
set_option maxRecDepth 100000
structure Tanon111 where
  a0 : Int
  a1 : Int
  a2 : Int
  a3 : Int
  a4 : Int
  deriving DecidableEq
def eTanon111 (x : Tanon111) : List V := [(V.v (.int .u8 (x.a0))), (V.v (.int .u8 (x.a1))), (V.v (.int .u8 (x.a2))), (V.v (.int .u8 (x.a3))), (V.v (.int .u8 (x.a4)))]
structure Tanon35 where
  a0 : Int
  a1 : Int
  a2 : Int
  a3 : Int
  deriving DecidableEq
def eTanon35 (x : Tanon35) : List V := [(V.v (.int .u8 (x.a0))), (V.v (.int .u8 (x.a1))), (V.v (.int .u8 (x.a2))), (V.v (.int .u8 (x.a3)))]
structure Tanon36 where
  a0 : Int
  a1 : Int
  deriving DecidableEq
def eTanon36 (x : Tanon36) : List V := [(V.v (.int .u8 (x.a0))), (V.v (.int .u8 (x.a1)))]
structure Tthalweglaw02_Small where
  Lot : Int
  Sections : List Tanon111
  Load : Tanon35
  Density : Tanon36
  deriving DecidableEq
def eTthalweglaw02_Small (x : Tthalweglaw02_Small) : List V := [(V.v (.int .u8 (x.Lot))), (V.sl (recs eTanon111 (x.Sections)) (x.Sections).length), (V.v (.int .u8 (x.Load.a0))), (V.v (.int .u8 (x.Load.a1))), (V.v (.int .u8 (x.Load.a2))), (V.v (.int .u8 (x.Load.a3))), (V.v (.int .u8 (x.Density.a0))), (V.v (.int .u8 (x.Density.a1)))]
structure THullRow where
  Draft : Int
  Volume : Int
  deriving DecidableEq
def eTHullRow (x : THullRow) : List V := [(V.v (.int .i64 (x.Draft))), (V.v (.int .i64 (x.Volume)))]
structure THullHold where
  At : Int
  Lots : Int
  deriving DecidableEq
def eTHullHold (x : THullHold) : List V := [(V.v (.int .i64 (x.At))), (V.v (.int .i64 (x.Lots)))]
structure THullSection where
  Length : Int
  Light : Int
  Trim : Int
  Curve : List THullRow
  Holds : List THullHold
  deriving DecidableEq
def eTHullSection (x : THullSection) : List V := [(V.v (.int .i64 (x.Length))), (V.v (.int .i64 (x.Light))), (V.v (.int .i64 (x.Trim))), (V.sl (recs eTHullRow (x.Curve)) (x.Curve).length), (V.sl (recs eTHullHold (x.Holds)) (x.Holds).length)]
structure THull where
  Lot : Int
  Sections : List THullSection
  deriving DecidableEq
def eTHull (x : THull) : List V := [(V.v (.int .i64 (x.Lot))), (V.sl (recs eTHullSection (x.Sections)) (x.Sections).length)]
structure TBounds where
  Low : Int
  High : Int
  deriving DecidableEq
def eTBounds (x : TBounds) : List V := [(V.v (.int .i64 (x.Low))), (V.v (.int .i64 (x.High)))]
structure Thull_hold where
  HullHold : THullHold
  arm_ : Int
  deriving DecidableEq
def eThull_hold (x : Thull_hold) : List V := [(V.v (.int .i64 (x.HullHold.At))), (V.v (.int .i64 (x.HullHold.Lots))), (V.v (.int .i64 (x.arm_)))]
structure Thull_ship where
  Hull : THull
  limit_ : Int
  trim_ : Int
  mass_ : Int
  moment_ : Int
  storage_ : List Thull_hold
  deriving DecidableEq
def eThull_ship (x : Thull_ship) : List V := [(V.v (.int .i64 (x.Hull.Lot))), (V.sl (recs eTHullSection (x.Hull.Sections)) (x.Hull.Sections).length), (V.v (.int .i64 (x.limit_))), (V.v (.int .i64 (x.trim_))), (V.v (.int .i64 (x.mass_))), (V.v (.int .i64 (x.moment_))), (V.sl (recs eThull_hold (x.storage_)) (x.storage_).length)]
structure THullFloat where
  Mean : TBounds
  Deep : TBounds
  Head : Int
  deriving DecidableEq
def eTHullFloat (x : THullFloat) : List V := [(V.v (.int .i64 (x.Mean.Low))), (V.v (.int .i64 (x.Mean.High))), (V.v (.int .i64 (x.Deep.Low))), (V.v (.int .i64 (x.Deep.High))), (V.v (.int .i64 (x.Head)))]

noncomputable def L_thalweglaw02_Small_hull_1 (a1 : Int) (a0 : Tthalweglaw02_Small) : LoopD (Int × (List THullSection)) (((List THullSection))) (Unit) where
  step := fun s => match s with
    | (s1, s2) =>
      bif (s1 == 0) then
        bif (decide (s1 < ((a0.Sections).length : Int))) then
          (idx? (a0.Sections) (s1)).bind fun x8 =>
          (app? (s2) (([(⟨(wr (10 + (Int.tmod (wr (x8.a0)) 20))), (Int.tmod (wr (x8.a3)) 60), (wr (1 + (wr (x8.a4)))), ([(⟨0, 0⟩ : THullRow), (⟨(wr (40 + (Int.tmod (wr (x8.a1)) 100))), (wr (60 + (wr (x8.a2))))⟩ : THullRow), (⟨(wr ((wr ((wr (40 + (Int.tmod (wr (x8.a1)) 100))) + 50)) + (wr (x8.a0)))), (wr ((wr ((wr (60 + (wr (x8.a2)))) + 200)) + (wr (2 * (wr (x8.a1))))))⟩ : THullRow)] : List THullRow), ([(⟨(Int.tmod (wr (x8.a4)) 11), (Int.tmod (wr (x8.a2)) 6)⟩ : THullHold)] : List THullHold)⟩ : THullSection)] : List THullSection)) 72).bind fun l9 =>
          some (.inl ((wr (s1 + 1)), l9))
        else
          (app? (s2) (([(⟨(wr (10 + (Int.tmod (wr (0)) 20))), (Int.tmod (wr (0)) 60), (wr (1 + (wr (0)))), ([(⟨0, 0⟩ : THullRow), (⟨(wr (40 + (Int.tmod (wr (0)) 100))), (wr (60 + (wr (0))))⟩ : THullRow), (⟨(wr ((wr ((wr (40 + (Int.tmod (wr (0)) 100))) + 50)) + (wr (0)))), (wr ((wr ((wr (60 + (wr (0)))) + 200)) + (wr (2 * (wr (0))))))⟩ : THullRow)] : List THullRow), ([(⟨(Int.tmod (wr (0)) 11), (Int.tmod (wr (0)) 6)⟩ : THullHold)] : List THullHold)⟩ : THullSection)] : List THullSection)) 72).bind fun l10 =>
          some (.inl ((wr (s1 + 1)), l10))
      else
        bif (decide (s1 < ((a0.Sections).length : Int))) then
          bif (decide (s1 < a1)) then
            (idx? (a0.Sections) (s1)).bind fun x11 =>
            (app? (s2) (([(⟨(wr (10 + (Int.tmod (wr (x11.a0)) 20))), (Int.tmod (wr (x11.a3)) 60), (wr (1 + (wr (x11.a4)))), ([(⟨0, 0⟩ : THullRow), (⟨(wr (40 + (Int.tmod (wr (x11.a1)) 100))), (wr (60 + (wr (x11.a2))))⟩ : THullRow), (⟨(wr ((wr ((wr (40 + (Int.tmod (wr (x11.a1)) 100))) + 50)) + (wr (x11.a0)))), (wr ((wr ((wr (60 + (wr (x11.a2)))) + 200)) + (wr (2 * (wr (x11.a1))))))⟩ : THullRow)] : List THullRow), ([(⟨(Int.tmod (wr (x11.a4)) 11), (Int.tmod (wr (x11.a2)) 6)⟩ : THullHold)] : List THullHold)⟩ : THullSection)] : List THullSection)) 72).bind fun l12 =>
            some (.inl ((wr (s1 + 1)), l12))
          else
            some (.inr s2)
        else
          some (.inr s2)
  at_ := fun s gh => match s, gh with
    | (s1, s2), () => ⟨[(1, (V.v (.int .i64 (a1)))), (2, (V.box 0 0)), (4, (V.box 1 0)), (5, (V.box 8 0)), (6, (V.v (.int .i64 (s1))))], [(0, Bx.var [(V.v (.int .u8 (a0.Lot))), (V.sl (recs eTanon111 (a0.Sections)) (a0.Sections).length), (V.v (.int .u8 (a0.Load.a0))), (V.v (.int .u8 (a0.Load.a1))), (V.v (.int .u8 (a0.Load.a2))), (V.v (.int .u8 (a0.Load.a3))), (V.v (.int .u8 (a0.Density.a0))), (V.v (.int .u8 (a0.Density.a1)))] false), (1, Bx.var [(V.v (.int .i64 (0))), (V.v (.slice none 0 0))] false), (8, Bx.var [(V.v (.int .i64 ((wr (1 + (Int.tmod (wr (a0.Lot)) 30)))))), (V.osl 9 (s2).length)] false), (9, Bx.row 55 5 (recs eTHullSection (s2)) 0)], 10⟩
noncomputable def F_thalweglaw02_Small_hull : (Tthalweglaw02_Small × Int) → Option (THull) := fun x => match x with
  | (a0, a1) =>
    (loopC (L_thalweglaw02_Small_hull_1 a1 a0).step (0, ([] : List THullSection))).bind fun e => match e with
    | s13 =>
      some (⟨(wr (1 + (Int.tmod (wr (a0.Lot)) 30))), s13⟩ : THull)

noncomputable def L_thalweglaw02_Small_load_1 (a0 : Tthalweglaw02_Small) (a1 : THull) : LoopD (Int × (List Int)) (((List Int))) (Unit) where
  step := fun s => match s with
    | (s1, s2) =>
      bif (decide (s1 < ((a1.Sections).length : Int))) then
        bif ((Int.tmod s1 4) == 0) then
          (idx? (a1.Sections) (s1)).bind fun x15 =>
          (idx? (x15.Holds) (0)).bind fun x16 =>
          (nz? ((wr (x16.Lots + 1)))).bind fun _ =>
          (app? (s2) (([(Int.tmod (wr (a0.Load.a0)) (wr (x16.Lots + 1)))] : List Int)) 8).bind fun l17 =>
          some (.inl ((wr (s1 + 1)), l17))
        else
          bif ((Int.tmod s1 4) == 1) then
            (idx? (a1.Sections) (s1)).bind fun x18 =>
            (idx? (x18.Holds) (0)).bind fun x19 =>
            (nz? ((wr (x19.Lots + 1)))).bind fun _ =>
            (app? (s2) (([(Int.tmod (wr (a0.Load.a1)) (wr (x19.Lots + 1)))] : List Int)) 8).bind fun l20 =>
            some (.inl ((wr (s1 + 1)), l20))
          else
            bif ((Int.tmod s1 4) == 2) then
              (idx? (a1.Sections) (s1)).bind fun x21 =>
              (idx? (x21.Holds) (0)).bind fun x22 =>
              (nz? ((wr (x22.Lots + 1)))).bind fun _ =>
              (app? (s2) (([(Int.tmod (wr (a0.Load.a2)) (wr (x22.Lots + 1)))] : List Int)) 8).bind fun l23 =>
              some (.inl ((wr (s1 + 1)), l23))
            else
              bif ((Int.tmod s1 4) == 3) then
                (idx? (a1.Sections) (s1)).bind fun x24 =>
                (idx? (x24.Holds) (0)).bind fun x25 =>
                (nz? ((wr (x25.Lots + 1)))).bind fun _ =>
                (app? (s2) (([(Int.tmod (wr (a0.Load.a3)) (wr (x25.Lots + 1)))] : List Int)) 8).bind fun l26 =>
                some (.inl ((wr (s1 + 1)), l26))
              else
                none
      else
        some (.inr s2)
  at_ := fun s gh => match s, gh with
    | (s1, s2), () => ⟨[(2, (V.box 0 0)), (3, (V.box 1 0)), (4, (V.v (.slice none 0 0))), (5, (V.osl 3 (s2).length)), (6, (V.v (.int .i64 (s1))))], [(0, Bx.var [(V.v (.int .u8 (a0.Lot))), (V.sl (recs eTanon111 (a0.Sections)) (a0.Sections).length), (V.v (.int .u8 (a0.Load.a0))), (V.v (.int .u8 (a0.Load.a1))), (V.v (.int .u8 (a0.Load.a2))), (V.v (.int .u8 (a0.Load.a3))), (V.v (.int .u8 (a0.Density.a0))), (V.v (.int .u8 (a0.Density.a1)))] false), (1, Bx.var [(V.v (.int .i64 (a1.Lot))), (V.sl (recs eTHullSection (a1.Sections)) (a1.Sections).length)] false), (3, Bx.row 3 1 (recs (eI .i64) (s2)) 0)], 4⟩
noncomputable def F_thalweglaw02_Small_load : (Tthalweglaw02_Small × THull) → Option (List Int) := fun x => match x with
  | (a0, a1) =>
    (loopC (L_thalweglaw02_Small_load_1 a0 a1).step (0, ([] : List Int))).bind fun e => match e with
    | s27 =>
      some s27

noncomputable def F_thalweglaw02_Small_density : (Tthalweglaw02_Small) → Option (TBounds) := fun x => match x with
  | (a0) =>
    some (⟨(wr (900 + (Int.tmod (wr ((minmax false a0.Density.a0 a0.Density.a1))) 130))), (wr ((wr (900 + (Int.tmod (wr ((minmax false a0.Density.a0 a0.Density.a1))) 130))) + (Int.tmod (wr ((minmax true a0.Density.a0 a0.Density.a1))) 50)))⟩ : TBounds)

noncomputable def L_numbers_Every_int_1 (a1 : (Int → Option Bool)) (a0 : List Int) (g : FuncId) (caps : List V) : LoopD (Int) (Unit ⊕ Bool) (Unit) where
  step := fun s => match s with
    | s1 =>
      bif (decide (s1 < ((a0).length : Int))) then
        (idx? (a0) (s1)).bind fun x4 =>
        (a1 (x4)).bind fun y5 =>
        bif (!y5) then
          some (.inr (.inr false))
        else
          some (.inl (wr (s1 + 1)))
      else
        some (.inr (.inl ()))
  at_ := fun s gh => match s, gh with
    | s1, () => ⟨[(1, (V.fn g caps)), (4, (V.v (.bool (false)))), (7, (V.sl (recs (eI .i64) (a0)) (a0).length)), (8, (V.v (.int .i64 (((a0).length : Int))))), (9, (V.v (.int .i64 (s1))))], [], 0⟩
noncomputable def F_numbers_Every_int : ((List Int) × ((Int → Option Bool)) × FuncId × (List V)) → Option (Bool) := fun x => match x with
  | (a0, a1, g, caps) =>
    (loopC (L_numbers_Every_int_1 a1 a0 g caps).step 0).bind fun e => match e with
    | (.inl ()) =>
      some true
    | (.inr r6) =>
      some r6

noncomputable def F_numbers_Within_1 : (Int × Int × Int) → Option (Bool) := fun x => match x with
  | (a0, c0, c1) =>
    bif (decide (c0 ≤ a0)) then
      some (decide (a0 ≤ c1))
    else
      some false

noncomputable def F_numbers_Within : (Int × Int × (List Int)) → Option (Bool) := fun x => match x with
  | (a0, a1, a2) =>
    (F_numbers_Every_int (a2, (fun q => F_numbers_Within_1 (q, a0, a1)), 62, [(V.fptr [(V.v (.int .i64 (a0)))]), (V.fptr [(V.v (.int .i64 (a1)))])])).bind fun y1 =>
    some y1

noncomputable def L_hull_length_1 (a0 : List THullSection) : LoopD (Int × Int) (Int) (Unit) where
  step := fun s => match s with
    | (s1, s2) =>
      bif (decide (s2 < ((a0).length : Int))) then
        (idx? (a0) (s2)).bind fun x4 =>
        some (.inl ((wr (s1 + x4.Length)), (wr (s2 + 1))))
      else
        some (.inr s1)
  at_ := fun s gh => match s, gh with
    | (s1, s2), () => ⟨[(2, (V.v (.int .i64 (0)))), (3, (V.v (.int .i64 (s1)))), (6, (V.sl (recs eTHullSection (a0)) (a0).length)), (7, (V.v (.int .i64 (((a0).length : Int))))), (8, (V.v (.int .i64 (s2))))], [], 0⟩
noncomputable def F_hull_length : ((List THullSection)) → Option (Int) := fun x => match x with
  | (a0) =>
    (loopC (L_hull_length_1 a0).step (0, 0)).bind fun e => match e with
    | s5 =>
      some s5

noncomputable def L_numbers_Every_HullSection_1 (a1 : (THullSection → Option Bool)) (a0 : List THullSection) (g : FuncId) (caps : List V) : LoopD (Int) (Unit ⊕ Bool) (Unit) where
  step := fun s => match s with
    | s1 =>
      bif (decide (s1 < ((a0).length : Int))) then
        (idx? (a0) (s1)).bind fun x4 =>
        (a1 (x4)).bind fun y5 =>
        bif (!y5) then
          some (.inr (.inr false))
        else
          some (.inl (wr (s1 + 1)))
      else
        some (.inr (.inl ()))
  at_ := fun s gh => match s, gh with
    | s1, () => ⟨[(1, (V.fn g caps)), (4, (V.v (.bool (false)))), (7, (V.sl (recs eTHullSection (a0)) (a0).length)), (8, (V.v (.int .i64 (((a0).length : Int))))), (9, (V.v (.int .i64 (s1))))], [], 0⟩
noncomputable def F_numbers_Every_HullSection : ((List THullSection) × ((THullSection → Option Bool)) × FuncId × (List V)) → Option (Bool) := fun x => match x with
  | (a0, a1, g, caps) =>
    (loopC (L_numbers_Every_HullSection_1 a1 a0 g caps).step 0).bind fun e => match e with
    | (.inl ()) =>
      some true
    | (.inr r6) =>
      some r6

noncomputable def L_hull_validCurve_1 (a0 : List THullRow) : LoopD (Int) (Unit ⊕ Bool) (Unit) where
  step := fun s => match s with
    | s3 =>
      bif (decide (s3 < ((a0).length : Int))) then
        (idx? (a0) ((wr (s3 - 1)))).bind fun x8 =>
        (idx? (a0) (s3)).bind fun x9 =>
        bif (decide (x8.Draft ≥ x9.Draft)) then
          some (.inr (.inr false))
        else
          (idx? (a0) ((wr (s3 - 1)))).bind fun x10 =>
          (idx? (a0) (s3)).bind fun x11 =>
          bif (decide (x10.Volume ≥ x11.Volume)) then
            some (.inr (.inr false))
          else
            some (.inl (wr (s3 + 1)))
      else
        some (.inr (.inl ()))
  at_ := fun s gh => match s, gh with
    | s3, () => ⟨[(0, (V.sl (recs eTHullRow (a0)) (a0).length)), (2, (V.v (.bool (false)))), (3, (V.v (.int .i64 (s3))))], [], 0⟩
noncomputable def F_hull_validCurve : ((List THullRow)) → Option (Bool) := fun x => match x with
  | (a0) =>
    (F_numbers_Within (2, 20, ([((a0).length : Int)] : List Int))).bind fun y1 =>
    bif (!y1) then
      some false
    else
      (idx? (a0) (0)).bind fun x2 =>
      bif (!(x2.Draft == 0 && (x2.Volume == 0 && true))) then
        some false
      else
        (loopC (L_hull_validCurve_1 a0).step 1).bind fun e => match e with
        | (.inl ()) =>
          (idx? (a0) ((wr (((a0).length : Int) - 1)))).bind fun x12 =>
          bif (decide (x12.Draft ≤ 1000)) then
            some (decide (x12.Volume ≤ 100000))
          else
            some false
        | (.inr r13) =>
          some r13

noncomputable def L_numbers_Every_HullHold_1 (a1 : (THullHold → Option Bool)) (a0 : List THullHold) (g : FuncId) (caps : List V) : LoopD (Int) (Unit ⊕ Bool) (Unit) where
  step := fun s => match s with
    | s1 =>
      bif (decide (s1 < ((a0).length : Int))) then
        (idx? (a0) (s1)).bind fun x4 =>
        (a1 (x4)).bind fun y5 =>
        bif (!y5) then
          some (.inr (.inr false))
        else
          some (.inl (wr (s1 + 1)))
      else
        some (.inr (.inl ()))
  at_ := fun s gh => match s, gh with
    | s1, () => ⟨[(1, (V.fn g caps)), (4, (V.v (.bool (false)))), (7, (V.sl (recs eTHullHold (a0)) (a0).length)), (8, (V.v (.int .i64 (((a0).length : Int))))), (9, (V.v (.int .i64 (s1))))], [], 0⟩
noncomputable def F_numbers_Every_HullHold : ((List THullHold) × ((THullHold → Option Bool)) × FuncId × (List V)) → Option (Bool) := fun x => match x with
  | (a0, a1, g, caps) =>
    (loopC (L_numbers_Every_HullHold_1 a1 a0 g caps).step 0).bind fun e => match e with
    | (.inl ()) =>
      some true
    | (.inr r6) =>
      some r6

noncomputable def F_hull_validSection_1 : (THullHold × THullSection) → Option (Bool) := fun x => match x with
  | (a0, c0) =>
    (F_numbers_Within (0, c0.Length, ([a0.At] : List Int))).bind fun y1 =>
    bif y1 then
      (F_numbers_Within (0, 20, ([a0.Lots] : List Int))).bind fun y2 =>
      some y2
    else
      some false

noncomputable def F_hull_validSection : (THullSection) → Option (Bool) := fun x => match x with
  | (a0) =>
    (F_numbers_Within (1, 100, ([a0.Length] : List Int))).bind fun y1 =>
    bif y1 then
      (F_numbers_Within (0, 10000, ([a0.Light] : List Int))).bind fun y2 =>
      bif y2 then
        (F_numbers_Within (1, 100000, ([a0.Trim] : List Int))).bind fun y3 =>
        bif y3 then
          (F_hull_validCurve (a0.Curve)).bind fun y4 =>
          bif y4 then
            (F_numbers_Every_HullHold (a0.Holds, (fun q => F_hull_validSection_1 (q, a0)), 98, [(V.fptr [(V.v (.int .i64 (a0.Length))), (V.v (.int .i64 (a0.Light))), (V.v (.int .i64 (a0.Trim))), (V.sl (recs eTHullRow (a0.Curve)) (a0.Curve).length), (V.sl (recs eTHullHold (a0.Holds)) (a0.Holds).length)])])).bind fun y5 =>
            some y5
          else
            some false
        else
          some false
      else
        some false
    else
      some false

noncomputable def L_hull_holds_1 (a0 : List THullSection) : LoopD (Int × Int) (Int) (Unit) where
  step := fun s => match s with
    | (s1, s2) =>
      bif (decide (s2 < ((a0).length : Int))) then
        (idx? (a0) (s2)).bind fun x4 =>
        some (.inl ((wr (s1 + ((x4.Holds).length : Int))), (wr (s2 + 1))))
      else
        some (.inr s1)
  at_ := fun s gh => match s, gh with
    | (s1, s2), () => ⟨[(2, (V.v (.int .i64 (0)))), (3, (V.v (.int .i64 (s1)))), (6, (V.sl (recs eTHullSection (a0)) (a0).length)), (7, (V.v (.int .i64 (((a0).length : Int))))), (8, (V.v (.int .i64 (s2))))], [], 0⟩
noncomputable def F_hull_holds : ((List THullSection)) → Option (Int) := fun x => match x with
  | (a0) =>
    (loopC (L_hull_holds_1 a0).step (0, 0)).bind fun e => match e with
    | s5 =>
      some s5

noncomputable def F_hull_Check : (THull) → Option (Int) := fun x => match x with
  | (a0) =>
    (F_numbers_Within (1, 1000, ([a0.Lot] : List Int))).bind fun y1 =>
    bif (!y1) then
      some 2
    else
      (F_numbers_Within (1, 6, ([((a0.Sections).length : Int)] : List Int))).bind fun y2 =>
      bif (!y2) then
        some 2
      else
        (F_numbers_Every_HullSection (a0.Sections, (fun q => F_hull_validSection (q)), 71, [])).bind fun y3 =>
        bif (!y3) then
          some 2
        else
          (F_hull_length (a0.Sections)).bind fun y4 =>
          bif (decide (y4 > 200)) then
            some 2
          else
            (F_hull_holds (a0.Sections)).bind fun y5 =>
            bif (decide (y5 > 4)) then
              some 2
            else
              some 0

noncomputable def L_hull_launch_1 (s3 : Int) (a0 : THull) (s4 : Int) (x19 : THullSection) (s5 : Int) (x20 : THullRow) (s6 : Int) (s7 : Int) (s8 : Int) : LoopD (Int × (List Thull_hold)) (((List Thull_hold))) (Unit) where
  step := fun s => match s with
    | (s21, s22) =>
      bif (decide (s21 < ((x19.Holds).length : Int))) then
        (idx? (x19.Holds) (s21)).bind fun x25 =>
        (app? (s22) (([(⟨x25, (wr (s3 + (wr (2 * x25.At))))⟩ : Thull_hold)] : List Thull_hold)) 24).bind fun l26 =>
        some (.inl ((wr (s21 + 1)), l26))
      else
        some (.inr s22)
  at_ := fun s gh => match s, gh with
    | (s21, s22), () => ⟨[(2, (V.box 1 0)), (3, (V.v (.int .i64 (0)))), (5, (V.box 10 0)), (6, (V.v (.int .i64 (s3)))), (8, (V.box 15 0)), (24, (V.sl (recs eTHullSection (a0.Sections)) (a0.Sections).length)), (25, (V.v (.int .i64 (((a0.Sections).length : Int))))), (26, (V.v (.int .i64 (s4)))), (67, (V.sl (recs eTHullHold (x19.Holds)) (x19.Holds).length)), (68, (V.v (.int .i64 (((x19.Holds).length : Int))))), (69, (V.v (.int .i64 (s21))))], [(1, Bx.var [(V.v (.int .i64 (0))), (V.v (.slice none 0 0)), (V.v (.int .i64 (0))), (V.v (.int .i64 (0))), (V.v (.int .i64 (0))), (V.v (.int .i64 (0))), (V.v (.slice none 0 0))] false), (10, Bx.var [(V.v (.int .i64 (a0.Lot))), (V.sl (recs eTHullSection (a0.Sections)) (a0.Sections).length), (V.v (.int .i64 ((minmax false s5 x20.Draft)))), (V.v (.int .i64 ((wr (s6 + x19.Trim))))), (V.v (.int .i64 ((wr (s7 + x19.Light))))), (V.v (.int .i64 ((wr (s8 + (wr (x19.Light * (wr (s3 + x19.Length))))))))), (V.osl 11 (s22).length)] false), (11, Bx.row 158 3 (recs eThull_hold (s22)) 0), (15, Bx.var [(V.v (.int .i64 (x19.Length))), (V.v (.int .i64 (x19.Light))), (V.v (.int .i64 (x19.Trim))), (V.sl (recs eTHullRow (x19.Curve)) (x19.Curve).length), (V.sl (recs eTHullHold (x19.Holds)) (x19.Holds).length)] false)], 16⟩
noncomputable def L_hull_launch_2 (a0 : THull) : LoopD (Int × Int × Int × Int × Int × Int × (List Thull_hold)) ((Int × Int × Int × Int × (List Thull_hold))) (Unit) where
  step := fun s => match s with
    | (s3, s4, s5, s6, s7, s8, s9) =>
      bif (decide (s4 < ((a0.Sections).length : Int))) then
        (idx? (a0.Sections) (s4)).bind fun x19 =>
        (idx? (x19.Curve) ((wr (((x19.Curve).length : Int) - 1)))).bind fun x20 =>
        (loopC (L_hull_launch_1 s3 a0 s4 x19 s5 x20 s6 s7 s8).step (0, s9)).bind fun e => match e with
        | s27 =>
          some (.inl ((wr (s3 + (wr (2 * x19.Length)))), (wr (s4 + 1)), (minmax false s5 x20.Draft), (wr (s6 + x19.Trim)), (wr (s7 + x19.Light)), (wr (s8 + (wr (x19.Light * (wr (s3 + x19.Length)))))), s27))
      else
        some (.inr (s5, s6, s7, s8, s9))
  at_ := fun s gh => match s, gh with
    | (s3, s4, s5, s6, s7, s8, s9), () => ⟨[(2, (V.box 1 0)), (3, (V.v (.int .i64 (0)))), (5, (V.box 10 0)), (6, (V.v (.int .i64 (s3)))), (24, (V.sl (recs eTHullSection (a0.Sections)) (a0.Sections).length)), (25, (V.v (.int .i64 (((a0.Sections).length : Int))))), (26, (V.v (.int .i64 (s4))))], [(1, Bx.var [(V.v (.int .i64 (0))), (V.v (.slice none 0 0)), (V.v (.int .i64 (0))), (V.v (.int .i64 (0))), (V.v (.int .i64 (0))), (V.v (.int .i64 (0))), (V.v (.slice none 0 0))] false), (10, Bx.var [(V.v (.int .i64 (a0.Lot))), (V.sl (recs eTHullSection (a0.Sections)) (a0.Sections).length), (V.v (.int .i64 (s5))), (V.v (.int .i64 (s6))), (V.v (.int .i64 (s7))), (V.v (.int .i64 (s8))), (V.osl 11 (s9).length)] false), (11, Bx.row 158 3 (recs eThull_hold (s9)) 0)], 12⟩
noncomputable def F_hull_launch : (THull) → Option (Thull_ship × Int) := fun x => match x with
  | (a0) =>
    (F_hull_Check (a0)).bind fun y1 =>
    bif (y1 != 0) then
      some ((⟨(⟨0, ([] : List THullSection)⟩ : THull), 0, 0, 0, 0, ([] : List Thull_hold)⟩ : Thull_ship), y1)
    else
      (F_hull_length (a0.Sections)).bind fun y2 =>
      (loopC (L_hull_launch_2 a0).step ((wr (0 - y2)), 0, 1000, 0, 0, 0, ([] : List Thull_hold))).bind fun e => match e with
      | (s28, s29, s30, s31, s32) =>
        some ((⟨a0, s28, s29, s30, s31, s32⟩ : Thull_ship), 0)

noncomputable def L_hull_ship_checkLoad_1 (a1 : List Int) (a0 : Thull_ship) : LoopD (Int) (Unit ⊕ Int) (Unit) where
  step := fun s => match s with
    | s1 =>
      bif (decide (s1 < ((a1).length : Int))) then
        (idx? (a1) (s1)).bind fun x5 =>
        (idx? (a0.storage_) (s1)).bind fun x6 =>
        (F_numbers_Within (0, x6.HullHold.Lots, ([x5] : List Int))).bind fun y7 =>
        bif (!y7) then
          some (.inr (.inr 3))
        else
          some (.inl (wr (s1 + 1)))
      else
        some (.inr (.inl ()))
  at_ := fun s gh => match s, gh with
    | s1, () => ⟨[(2, (V.box 0 0)), (4, (V.v (.int .i64 (0)))), (13, (V.sl (recs (eI .i64) (a1)) (a1).length)), (14, (V.v (.int .i64 (((a1).length : Int))))), (15, (V.v (.int .i64 (s1))))], [(0, Bx.var [(V.v (.int .i64 (a0.Hull.Lot))), (V.sl (recs eTHullSection (a0.Hull.Sections)) (a0.Hull.Sections).length), (V.v (.int .i64 (a0.limit_))), (V.v (.int .i64 (a0.trim_))), (V.v (.int .i64 (a0.mass_))), (V.v (.int .i64 (a0.moment_))), (V.sl (recs eThull_hold (a0.storage_)) (a0.storage_).length)] false)], 1⟩
noncomputable def F_hull_ship_checkLoad : (Thull_ship × (List Int)) → Option (Int) := fun x => match x with
  | (a0, a1) =>
    bif (((a1).length : Int) != ((a0.storage_).length : Int)) then
      some 4
    else
      (loopC (L_hull_ship_checkLoad_1 a1 a0).step 0).bind fun e => match e with
      | (.inl ()) =>
        some 0
      | (.inr r8) =>
        some r8

noncomputable def F_numbers_Valid : (TBounds × Int × Int) → Option (Bool) := fun x => match x with
  | (a0, a1, a2) =>
    bif (decide (a0.Low ≤ a0.High)) then
      (F_numbers_Within (a1, a2, ([a0.Low, a0.High] : List Int))).bind fun y1 =>
      some y1
    else
      some false

noncomputable def F_hull_validDensity : (TBounds) → Option (Bool) := fun x => match x with
  | (a0) =>
    (F_numbers_Valid (a0, 900, 1100)).bind fun y1 =>
    some y1

noncomputable def L_hull_ship_loaded_1 (a1 : List Int) (a0 : Thull_ship) : LoopD (Int × Int × Int) ((Int × Int)) (Unit) where
  step := fun s => match s with
    | (s1, s2, s3) =>
      bif (decide (s3 < ((a1).length : Int))) then
        (idx? (a1) (s3)).bind fun x6 =>
        (idx? (a0.storage_) (s3)).bind fun x7 =>
        some (.inl ((wr (s1 + x6)), (wr (s2 + (wr ((wr (x6 * a0.Hull.Lot)) * x7.arm_)))), (wr (s3 + 1))))
      else
        some (.inr (s1, s2))
  at_ := fun s gh => match s, gh with
    | (s1, s2, s3), () => ⟨[(2, (V.box 0 0)), (4, (V.v (.int .i64 (s1)))), (5, (V.v (.int .i64 (s2)))), (10, (V.sl (recs (eI .i64) (a1)) (a1).length)), (11, (V.v (.int .i64 (((a1).length : Int))))), (12, (V.v (.int .i64 (s3))))], [(0, Bx.var [(V.v (.int .i64 (a0.Hull.Lot))), (V.sl (recs eTHullSection (a0.Hull.Sections)) (a0.Hull.Sections).length), (V.v (.int .i64 (a0.limit_))), (V.v (.int .i64 (a0.trim_))), (V.v (.int .i64 (a0.mass_))), (V.v (.int .i64 (a0.moment_))), (V.sl (recs eThull_hold (a0.storage_)) (a0.storage_).length)] false)], 1⟩
noncomputable def F_hull_ship_loaded : (Thull_ship × (List Int)) → Option (Int × Int) := fun x => match x with
  | (a0, a1) =>
    (loopC (L_hull_ship_loaded_1 a1 a0).step (0, a0.moment_, 0)).bind fun e => match e with
    | (s8, s9) =>
      some (s8, s9)

noncomputable def F_numbers_Down : (Int × Int) → Option (Int) := fun x => match x with
  | (a0, a1) =>
    (nz? (a1)).bind fun _ =>
    bif (decide ((Int.tmod a0 a1) < 0)) then
      (nz? (a1)).bind fun _ =>
      some (wr ((wr (Int.tdiv a0 a1)) - 1))
    else
      (nz? (a1)).bind fun _ =>
      some (wr (Int.tdiv a0 a1))

noncomputable def F_numbers_Up : (Int × Int) → Option (Int) := fun x => match x with
  | (a0, a1) =>
    (F_numbers_Down ((wr (0 - a0)), a1)).bind fun y1 =>
    some (wr (0 - y1))

noncomputable def L_sort_Search_1 (a1 : (Int → Option Bool)) (g : FuncId) (caps : List V) : LoopD (Int × Int) (Int) (Unit) where
  step := fun s => match s with
    | (s1, s2) =>
      bif (decide (s1 < s2)) then
        (a1 ((wr ((Int.fdiv ((IntKind.wrap .u64 ((wr (s1 + s2))))) 2))))).bind fun y4 =>
        bif (!y4) then
          some (.inl ((wr ((wr ((Int.fdiv ((IntKind.wrap .u64 ((wr (s1 + s2))))) 2))) + 1)), s2))
        else
          some (.inl (s1, (wr ((Int.fdiv ((IntKind.wrap .u64 ((wr (s1 + s2))))) 2)))))
      else
        some (.inr s1)
  at_ := fun s gh => match s, gh with
    | (s1, s2), () => ⟨[(1, (V.fn g caps)), (4, (V.v (.int .i64 (0)))), (5, (V.v (.int .i64 (s1)))), (6, (V.v (.int .i64 (s2))))], [], 0⟩
noncomputable def F_sort_Search : (Int × ((Int → Option Bool)) × FuncId × (List V)) → Option (Int) := fun x => match x with
  | (a0, a1, g, caps) =>
    (loopC (L_sort_Search_1 a1 g caps).step (0, a0)).bind fun e => match e with
    | s5 =>
      some s5

noncomputable def L_slices_IndexFunc_L_HullRow_HullRow_1 (a0 : List THullRow) (a1 : (THullRow → Option Bool)) (g : FuncId) (caps : List V) : LoopD (Int) (Unit ⊕ Int) (Unit) where
  step := fun s => match s with
    | s1 =>
      bif (decide (s1 < ((a0).length : Int))) then
        (idx? (a0) (s1)).bind fun x4 =>
        (a1 (x4)).bind fun y5 =>
        bif y5 then
          some (.inr (.inr s1))
        else
          some (.inl (wr (s1 + 1)))
      else
        some (.inr (.inl ()))
  at_ := fun s gh => match s, gh with
    | s1, () => ⟨[(0, (V.sl (recs eTHullRow (a0)) (a0).length)), (1, (V.fn g caps)), (4, (V.v (.int .i64 (0)))), (7, (V.v (.int .i64 (((a0).length : Int))))), (8, (V.v (.int .i64 (s1))))], [], 0⟩
noncomputable def F_slices_IndexFunc_L_HullRow_HullRow : ((List THullRow) × ((THullRow → Option Bool)) × FuncId × (List V)) → Option (Int) := fun x => match x with
  | (a0, a1, g, caps) =>
    (loopC (L_slices_IndexFunc_L_HullRow_HullRow_1 a0 a1 g caps).step 0).bind fun e => match e with
    | (.inl ()) =>
      some (-1)
    | (.inr r6) =>
      some r6

noncomputable def F_hull_curveAt_1 : (THullRow × Int) → Option (Bool) := fun x => match x with
  | (a0, c0) =>
    some (decide (c0 ≤ a0.Draft))

noncomputable def F_hull_curveAt : ((List THullRow) × Int) → Option (Int) := fun x => match x with
  | (a0, a1) =>
    (slc? (a0) (1) (((a0).length : Int))).bind fun l1 =>
    (F_slices_IndexFunc_L_HullRow_HullRow (l1, (fun q => F_hull_curveAt_1 (q, a1)), 95, [(V.fptr [(V.v (.int .i64 (a1)))])])).bind fun y2 =>
    (idx? (a0) (y2)).bind fun x3 =>
    (idx? (a0) ((wr (y2 + 1)))).bind fun x4 =>
    (nz? ((wr (x4.Draft - x3.Draft)))).bind fun _ =>
    some (wr (x3.Volume + (wr (Int.tdiv (wr ((wr (x4.Volume - x3.Volume)) * (wr (a1 - x3.Draft)))) (wr (x4.Draft - x3.Draft))))))

noncomputable def L_hull_ship_volume_1 (a1 : Int) (a0 : Thull_ship) : LoopD (Int × Int) (Int) (Unit) where
  step := fun s => match s with
    | (s1, s2) =>
      bif (decide (s2 < ((a0.Hull.Sections).length : Int))) then
        (idx? (a0.Hull.Sections) (s2)).bind fun x5 =>
        (F_hull_curveAt (x5.Curve, a1)).bind fun y6 =>
        some (.inl ((wr (s1 + y6)), (wr (s2 + 1))))
      else
        some (.inr s1)
  at_ := fun s gh => match s, gh with
    | (s1, s2), () => ⟨[(1, (V.v (.int .i64 (a1)))), (4, (V.v (.int .i64 (0)))), (5, (V.v (.int .i64 (s1)))), (10, (V.sl (recs eTHullSection (a0.Hull.Sections)) (a0.Hull.Sections).length)), (11, (V.v (.int .i64 (((a0.Hull.Sections).length : Int))))), (12, (V.v (.int .i64 (s2))))], [], 0⟩
noncomputable def F_hull_ship_volume : (Thull_ship × Int) → Option (Int) := fun x => match x with
  | (a0, a1) =>
    (loopC (L_hull_ship_volume_1 a1 a0).step (0, 0)).bind fun e => match e with
    | s7 =>
      some s7

noncomputable def F_hull_ship_mean_1 : (Int × Thull_ship × Int) → Option (Bool) := fun x => match x with
  | (a0, c0, c1) =>
    (F_hull_ship_volume (c0, a0)).bind fun y1 =>
    some (decide (y1 ≥ c1))

noncomputable def F_hull_ship_mean : (Thull_ship × Int × Int) → Option (Int) := fun x => match x with
  | (a0, a1, a2) =>
    (F_numbers_Up ((wr ((wr (a0.mass_ + (wr (a1 * a0.Hull.Lot)))) * 1000)), a2)).bind fun y1 =>
    (F_sort_Search ((wr (a0.limit_ + 1)), (fun q => F_hull_ship_mean_1 (q, a0, y1)), 91, [(V.fptr [(V.v (.int .i64 (a0.Hull.Lot))), (V.sl (recs eTHullSection (a0.Hull.Sections)) (a0.Hull.Sections).length), (V.v (.int .i64 (a0.limit_))), (V.v (.int .i64 (a0.trim_))), (V.v (.int .i64 (a0.mass_))), (V.v (.int .i64 (a0.moment_))), (V.sl (recs eThull_hold (a0.storage_)) (a0.storage_).length)]), (V.fptr [(V.v (.int .i64 (y1)))])])).bind fun y2 =>
    some y2

noncomputable def F_hull_withoutSign : (Int) → Option (Int) := fun x => match x with
  | (a0) =>
    some (minmax true a0 (wr (0 - a0)))

noncomputable def F_cmp_isNaN_int : (Int) → Option (Bool) := fun x => match x with
  | (a0) =>
    some (a0 != a0)

noncomputable def F_cmp_Compare_int : (Int × Int) → Option (Int) := fun x => match x with
  | (a0, a1) =>
    (F_cmp_isNaN_int (a0)).bind fun y1 =>
    (F_cmp_isNaN_int (a1)).bind fun y2 =>
    bif y1 then
      bif y2 then
        some 0
      else
        some (-1)
    else
      bif y2 then
        some 1
      else
        bif (decide (a0 < a1)) then
          some (-1)
        else
          bif (decide (a0 > a1)) then
            some 1
          else
            some 0

noncomputable def F_hull_ship_float : (Thull_ship × (List Int) × TBounds) → Option (THullFloat × Int) := fun x => match x with
  | (a0, a1, a2) =>
    (F_hull_ship_loaded (a0, a1)).bind fun y1 =>
    (F_hull_ship_mean (a0, y1.1, a2.High)).bind fun y2 =>
    (F_hull_ship_mean (a0, y1.1, a2.Low)).bind fun y3 =>
    (F_hull_withoutSign (y1.2)).bind fun y4 =>
    (F_numbers_Up (y4, (wr (4 * a0.trim_)))).bind fun y5 =>
    bif (decide ((wr (y3 + y5)) > a0.limit_)) then
      some ((⟨(⟨0, 0⟩ : TBounds), (⟨0, 0⟩ : TBounds), 0⟩ : THullFloat), 8)
    else
      (F_cmp_Compare_int (y1.2, 0)).bind fun y6 =>
      some ((⟨(⟨y2, y3⟩ : TBounds), (⟨(wr (y2 + y5)), (wr (y3 + y5))⟩ : TBounds), y6⟩ : THullFloat), 0)

noncomputable def F_hull_Float : (THull × (List Int) × TBounds) → Option (THullFloat × Int) := fun x => match x with
  | (a0, a1, a2) =>
    (F_hull_launch (a0)).bind fun y1 =>
    bif (y1.2 != 0) then
      some ((⟨(⟨0, 0⟩ : TBounds), (⟨0, 0⟩ : TBounds), 0⟩ : THullFloat), y1.2)
    else
      (F_hull_ship_checkLoad (y1.1, a1)).bind fun y2 =>
      bif (y2 != 0) then
        some ((⟨(⟨0, 0⟩ : TBounds), (⟨0, 0⟩ : TBounds), 0⟩ : THullFloat), y2)
      else
        (F_hull_validDensity (a2)).bind fun y3 =>
        bif (!y3) then
          some ((⟨(⟨0, 0⟩ : TBounds), (⟨0, 0⟩ : TBounds), 0⟩ : THullFloat), 2)
        else
          (F_hull_ship_float (y1.1, a1, a2)).bind fun y4 =>
          some (y4.1, y4.2)

noncomputable def L_thalweglaw02_own_1 (a0 : THull) : LoopD (Int × (List THullSection)) (((List THullSection))) (Unit) where
  step := fun s => match s with
    | (s1, s2) =>
      bif (decide (s1 < ((a0.Sections).length : Int))) then
        (idx? (a0.Sections) (s1)).bind fun x7 =>
        (app? (([] : List THullRow)) (x7.Curve) 16).bind fun l8 =>
        (app? (([] : List THullHold)) (x7.Holds) 16).bind fun l9 =>
        (app? (s2) (([(⟨x7.Length, x7.Light, x7.Trim, l8, l9⟩ : THullSection)] : List THullSection)) 72).bind fun l10 =>
        some (.inl ((wr (s1 + 1)), l10))
      else
        some (.inr s2)
  at_ := fun s gh => match s, gh with
    | (s1, s2), () => ⟨[(1, (V.box 0 0)), (2, (V.box 1 0)), (3, (V.box 5 0)), (4, (V.v (.int .i64 (s1))))], [(0, Bx.var [(V.v (.int .i64 (a0.Lot))), (V.sl (recs eTHullSection (a0.Sections)) (a0.Sections).length)] false), (1, Bx.var [(V.v (.int .i64 (0))), (V.v (.slice none 0 0))] false), (5, Bx.var [(V.v (.int .i64 (a0.Lot))), (V.osl 6 (s2).length)] false), (6, Bx.row 55 5 (recs eTHullSection (s2)) 0)], 7⟩
noncomputable def F_thalweglaw02_own : (THull) → Option (THull) := fun x => match x with
  | (a0) =>
    (loopC (L_thalweglaw02_own_1 a0).step (0, ([] : List THullSection))).bind fun e => match e with
    | s11 =>
      some (⟨a0.Lot, s11⟩ : THull)

noncomputable def F_thalweglaw02_numbers : ((List Int)) → Option (List Int) := fun x => match x with
  | (a0) =>
    (app? (([] : List Int)) (a0) 8).bind fun l1 =>
    some l1

noncomputable def F_hull_Volume : (THull × Int) → Option (Int × Int) := fun x => match x with
  | (a0, a1) =>
    (F_hull_launch (a0)).bind fun y1 =>
    bif (y1.2 != 0) then
      some (0, y1.2)
    else
      (F_numbers_Within (0, y1.1.limit_, ([a1] : List Int))).bind fun y2 =>
      bif (!y2) then
        some (0, 3)
      else
        (F_hull_ship_volume (y1.1, a1)).bind fun y3 =>
        some (y3, 0)

noncomputable def L_thalweglaw02_HullLeast_1 (a1 : Int) (a2 : Int) (y2 : List Int) (y3 : TBounds) (y1 : THull) (y6 : THullFloat × Int) : LoopD (Int × Int) (Int) (Unit) where
  step := fun s => match s with
    | (s8, s9) =>
      bif (decide (s9 < ((y1.Sections).length : Int))) then
        (idx? (y1.Sections) (s9)).bind fun x13 =>
        (idx? (y2) (s9)).bind fun x14 =>
        some (.inl ((wr (s8 + (wr (x13.Light + (wr (x14 * y1.Lot)))))), (wr (s9 + 1))))
      else
        some (.inr s8)
  at_ := fun s gh => match s, gh with
    | (s8, s9), () => ⟨[(1, (V.v (.int .u8 (a1)))), (2, (V.v (.int .u8 (a2)))), (6, (V.v (.bool (false)))), (7, (V.box 4 0)), (8, (V.osl 8 (y2).length)), (9, (V.box 11 0)), (10, (V.box 23 0)), (12, (V.v (.int .i64 (s8)))), (13, (V.v (.int .i64 (s9))))], [(4, Bx.var [(V.v (.int .i64 (y1.Lot))), (V.sl (recs eTHullSection (y1.Sections)) (y1.Sections).length)] false), (8, Bx.row 3 1 (recs (eI .i64) (y2)) 0), (11, Bx.var [(V.v (.int .i64 (y3.Low))), (V.v (.int .i64 (y3.High)))] false), (23, Bx.var [(V.v (.int .i64 (y6.1.Mean.Low))), (V.v (.int .i64 (y6.1.Mean.High))), (V.v (.int .i64 (y6.1.Deep.Low))), (V.v (.int .i64 (y6.1.Deep.High))), (V.v (.int .i64 (y6.1.Head)))] false)], 24⟩
noncomputable def L_thalweglaw02_HullLeast_2 (a1 : Int) (a2 : Int) (s16 : Int) (y2 : List Int) (y3 : TBounds) (y1 : THull) (y6 : THullFloat × Int) : LoopD (Int) (Unit ⊕ Bool) (Unit) where
  step := fun s => match s with
    | s17 =>
      bif (decide (s17 < 2)) then
        bif (s17 == 0) then
          (F_thalweglaw02_own (y1)).bind fun y26 =>
          (F_hull_Volume (y26, y6.1.Mean.Low)).bind fun y27 =>
          bif (y27.2 != 0) then
            some (.inr (.inr false))
          else
            bif (decide (y6.1.Mean.Low < 0)) then
              some (.inr (.inr false))
            else
              bif (decide ((wr (y27.1 * y3.High)) < (wr (s16 * 1000)))) then
                some (.inr (.inr false))
              else
                bif (decide (y6.1.Mean.Low > 0)) then
                  (F_thalweglaw02_own (y1)).bind fun y28 =>
                  (F_hull_Volume (y28, (wr (y6.1.Mean.Low - 1)))).bind fun y29 =>
                  bif (y29.2 != 0) then
                    some (.inr (.inr false))
                  else
                    bif (decide ((wr (y29.1 * y3.High)) ≥ (wr (s16 * 1000)))) then
                      some (.inr (.inr false))
                    else
                      bif (decide (y29.1 > y27.1)) then
                        some (.inr (.inr false))
                      else
                        some (.inl (wr (s17 + 1)))
                else
                  some (.inl (wr (s17 + 1)))
        else
          bif (s17 == 1) then
            (F_thalweglaw02_own (y1)).bind fun y30 =>
            (F_hull_Volume (y30, y6.1.Mean.High)).bind fun y31 =>
            bif (y31.2 != 0) then
              some (.inr (.inr false))
            else
              bif (decide (y6.1.Mean.High < 0)) then
                some (.inr (.inr false))
              else
                bif (decide ((wr (y31.1 * y3.Low)) < (wr (s16 * 1000)))) then
                  some (.inr (.inr false))
                else
                  bif (decide (y6.1.Mean.High > 0)) then
                    (F_thalweglaw02_own (y1)).bind fun y32 =>
                    (F_hull_Volume (y32, (wr (y6.1.Mean.High - 1)))).bind fun y33 =>
                    bif (y33.2 != 0) then
                      some (.inr (.inr false))
                    else
                      bif (decide ((wr (y33.1 * y3.Low)) ≥ (wr (s16 * 1000)))) then
                        some (.inr (.inr false))
                      else
                        bif (decide (y33.1 > y31.1)) then
                          some (.inr (.inr false))
                        else
                          some (.inl (wr (s17 + 1)))
                  else
                    some (.inl (wr (s17 + 1)))
          else
            none
      else
        some (.inr (.inl ()))
  at_ := fun s gh => match s, gh with
    | s17, () => ⟨[(1, (V.v (.int .u8 (a1)))), (2, (V.v (.int .u8 (a2)))), (6, (V.v (.bool (false)))), (7, (V.box 4 0)), (8, (V.osl 8 (y2).length)), (9, (V.box 11 0)), (10, (V.box 23 0)), (12, (V.v (.int .i64 (s16)))), (14, (V.v (.int .i64 (s17))))], [(4, Bx.var [(V.v (.int .i64 (y1.Lot))), (V.sl (recs eTHullSection (y1.Sections)) (y1.Sections).length)] false), (8, Bx.row 3 1 (recs (eI .i64) (y2)) 0), (11, Bx.var [(V.v (.int .i64 (y3.Low))), (V.v (.int .i64 (y3.High)))] false), (23, Bx.var [(V.v (.int .i64 (y6.1.Mean.Low))), (V.v (.int .i64 (y6.1.Mean.High))), (V.v (.int .i64 (y6.1.Deep.Low))), (V.v (.int .i64 (y6.1.Deep.High))), (V.v (.int .i64 (y6.1.Head)))] false)], 24⟩
noncomputable def F_thalweglaw02_HullLeast : (Tthalweglaw02_Small × Int × Int) → Option (Bool) := fun x => match x with
  | (a0, a1, a2) =>
    (F_thalweglaw02_Small_hull (a0, 4)).bind fun y1 =>
    (F_thalweglaw02_Small_load (a0, y1)).bind fun y2 =>
    (F_thalweglaw02_Small_density (a0)).bind fun y3 =>
    (F_thalweglaw02_own (y1)).bind fun y4 =>
    (F_thalweglaw02_numbers (y2)).bind fun y5 =>
    (F_hull_Float (y4, y5, y3)).bind fun y6 =>
    bif (y6.2 != 0) then
      bif (y6.2 == 8) then
        bif (y6.1.Mean.Low == 0 && (y6.1.Mean.High == 0 && (y6.1.Deep.Low == 0 && (y6.1.Deep.High == 0 && (y6.1.Head == 0 && true))))) then
          (F_thalweglaw02_known ()).bind fun y7 =>
          some y7
        else
          some false
      else
        some false
    else
      (loopC (L_thalweglaw02_HullLeast_1 a1 a2 y2 y3 y1 y6).step (0, 0)).bind fun e => match e with
      | s16 =>
        (loopC (L_thalweglaw02_HullLeast_2 a1 a2 s16 y2 y3 y1 y6).step 0).bind fun e => match e with
        | (.inl ()) =>
          bif ((wr (y6.1.Deep.Low - y6.1.Mean.Low)) != (wr (y6.1.Deep.High - y6.1.Mean.High))) then
            some false
          else
            bif (decide (y6.1.Deep.Low < y6.1.Mean.Low)) then
              some false
            else
              bif (!((y6.1.Head == 0) == (y6.1.Deep.Low == y6.1.Mean.Low))) then
                some false
              else
                (F_thalweglaw02_own (y1)).bind fun y34 =>
                (F_thalweglaw02_numbers (y2)).bind fun y35 =>
                (F_hull_Float (y34, y35, (⟨(wr (y3.Low + (Int.tmod (wr (a2)) 20))), (wr (y3.High + (Int.tmod (wr (a2)) 20)))⟩ : TBounds))).bind fun y36 =>
                bif (y36.2 != 0) then
                  some false
                else
                  bif (decide (y36.1.Mean.Low > y6.1.Mean.Low)) then
                    some false
                  else
                    bif (decide (y36.1.Mean.High > y6.1.Mean.High)) then
                      some false
                    else
                      bif (decide (y36.1.Deep.High > y6.1.Deep.High)) then
                        some false
                      else
                        (nz? (((y2).length : Int))).bind fun _ =>
                        (idx? (y2) ((Int.tmod (wr (a1)) ((y2).length : Int)))).bind fun x37 =>
                        (idx? (y1.Sections) ((Int.tmod (wr (a1)) ((y2).length : Int)))).bind fun x39 =>
                        (idx? (x39.Holds) (0)).bind fun x40 =>
                        bif (decide (x37 < x40.Lots)) then
                          (idx? (y2) ((Int.tmod (wr (a1)) ((y2).length : Int)))).bind fun x41 =>
                          (idx? (y2) ((Int.tmod (wr (a1)) ((y2).length : Int)))).bind fun x43 =>
                          (set? (y2) ((Int.tmod (wr (a1)) ((y2).length : Int))) ((wr (x41 + 1)))).bind fun l45 =>
                          (F_thalweglaw02_own (y1)).bind fun y46 =>
                          (F_thalweglaw02_numbers (l45)).bind fun y47 =>
                          (F_hull_Float (y46, y47, y3)).bind fun y48 =>
                          bif (y48.2 == 0) then
                            bif (decide (y48.1.Mean.Low < y6.1.Mean.Low)) then
                              some false
                            else
                              bif (decide (y48.1.Mean.High < y6.1.Mean.High)) then
                                some false
                              else
                                bif (y48.2 != 0) then
                                  bif (y48.2 != 8) then
                                    some false
                                  else
                                    (F_thalweglaw02_known ()).bind fun y49 =>
                                    some y49
                                else
                                  (F_thalweglaw02_known ()).bind fun y50 =>
                                  some y50
                          else
                            bif (y48.2 != 0) then
                              bif (y48.2 != 8) then
                                some false
                              else
                                (F_thalweglaw02_known ()).bind fun y51 =>
                                some y51
                            else
                              (F_thalweglaw02_known ()).bind fun y52 =>
                              some y52
                        else
                          (F_thalweglaw02_known ()).bind fun y53 =>
                          some y53
        | (.inr r54) =>
          some r54
end Go.Ev
/- What the arguments of the law are. -/
set_option linter.unusedVariables false
set_option linter.unusedSimpArgs false
namespace Go.Ev
open Go.Proofs
set_option maxRecDepth 100000
theorem typ_list {α : Type} {enc : α → List V} {k : α → Prop} {n : Nat} {e : TypeId} (h : ∀ vs, Typ Try.prog n e vs → ∃ a, vs = enc a ∧ k a) : ∀ (ls : List (List V)), (∀ l ∈ ls, Typ Try.prog n e l) → ∃ l : List α, ls.flatten = recs enc l ∧ ls.length = l.length ∧ ∀ x ∈ l, k x
  | [], _ => ⟨[], rfl, rfl, fun x hx => by cases hx⟩
  | x :: ls, hl => by
    obtain ⟨a, rfl, ha⟩ := h x (hl x (by simp))
    obtain ⟨l, h1, h2, h3⟩ := typ_list h ls fun y hy => hl y (by simp [hy])
    refine ⟨a :: l, by simp [recs, List.flatten_cons, h1], by simp [h2], ?_⟩
    intro x hx
    cases hx with
    | head => exact ha
    | tail _ hx => exact h3 x hx
def kIu8 (i : Int) : Prop := IntKind.u8.min ≤ i ∧ i ≤ IntKind.u8.max
theorem typ_Iu8_5 {n : Nat} {vs : List V} (h : Typ Try.prog (n + 1) 5 vs) : ∃ x : Int, vs = [(V.v (.int .u8 (x)))] ∧ kIu8 (x) := by
  simp only [Typ, Try.underlying5] at h
  obtain ⟨i, rfl, hw⟩ := h
  refine ⟨i, rfl, ?_⟩
  simp only [Lit.wf, Bool.and_eq_true, decide_eq_true_eq] at hw
  exact hw
def kTanon111 (x : Tanon111) : Prop := kIu8 (x.a0) ∧ kIu8 (x.a1) ∧ kIu8 (x.a2) ∧ kIu8 (x.a3) ∧ kIu8 (x.a4)
theorem typ_Tanon111_111 {n : Nat} {vs : List V} (h : Typ Try.prog (n + 2) 111 vs) : ∃ x : Tanon111, vs = eTanon111 x ∧ kTanon111 x := by
  unfold Typ at h
  simp only [Try.underlying111] at h
  obtain ⟨ls, rfl, hl, h⟩ := h
  match ls, hl with
  | [v0, v1, v2, v3, v4], _ =>
    obtain ⟨x0, rfl, k0⟩ := typ_Iu8_5 (n := n + 0) (h v0 (by simp))
    obtain ⟨x1, rfl, k1⟩ := typ_Iu8_5 (n := n + 0) (h v1 (by simp))
    obtain ⟨x2, rfl, k2⟩ := typ_Iu8_5 (n := n + 0) (h v2 (by simp))
    obtain ⟨x3, rfl, k3⟩ := typ_Iu8_5 (n := n + 0) (h v3 (by simp))
    obtain ⟨x4, rfl, k4⟩ := typ_Iu8_5 (n := n + 0) (h v4 (by simp))
    exact ⟨⟨x0, x1, x2, x3, x4⟩, rfl, k0, k1, k2, k3, k4⟩
def kLTanon111 (l : List Tanon111) : Prop := l.length ≤ 140737488355328 ∧ ∀ x ∈ l, kTanon111 (x)
theorem typ_LTanon111_34 {n : Nat} {vs : List V} (h : Typ Try.prog (n + 3) 34 vs) : ∃ x : List Tanon111, vs = [(V.sl (recs eTanon111 (x)) (x).length)] ∧ kLTanon111 (x) := by
  unfold Typ at h
  simp only [Try.underlying34] at h
  obtain ⟨ls, rfl, h1, h2⟩ := h
  obtain ⟨l, h3, h4, h5⟩ := typ_list (enc := eTanon111) (fun vs hv => typ_Tanon111_111 (n := n) hv) ls h1
  refine ⟨l, by rw [h3, h4], ?_, h5⟩
  have hb : Try.prog.bytesOf 111 = 5 := by kernel_rfl
  rw [hb, h4] at h2
  have : reachBytes = 140737488351232 := rfl
  omega
def kTanon35 (x : Tanon35) : Prop := kIu8 (x.a0) ∧ kIu8 (x.a1) ∧ kIu8 (x.a2) ∧ kIu8 (x.a3)
theorem typ_Tanon35_35 {n : Nat} {vs : List V} (h : Typ Try.prog (n + 2) 35 vs) : ∃ x : Tanon35, vs = eTanon35 x ∧ kTanon35 x := by
  unfold Typ at h
  simp only [Try.underlying35] at h
  obtain ⟨ls, rfl, hl, h⟩ := h
  match ls, hl with
  | [v0, v1, v2, v3], _ =>
    obtain ⟨x0, rfl, k0⟩ := typ_Iu8_5 (n := n + 0) (h v0 (by simp))
    obtain ⟨x1, rfl, k1⟩ := typ_Iu8_5 (n := n + 0) (h v1 (by simp))
    obtain ⟨x2, rfl, k2⟩ := typ_Iu8_5 (n := n + 0) (h v2 (by simp))
    obtain ⟨x3, rfl, k3⟩ := typ_Iu8_5 (n := n + 0) (h v3 (by simp))
    exact ⟨⟨x0, x1, x2, x3⟩, rfl, k0, k1, k2, k3⟩
def kTanon36 (x : Tanon36) : Prop := kIu8 (x.a0) ∧ kIu8 (x.a1)
theorem typ_Tanon36_36 {n : Nat} {vs : List V} (h : Typ Try.prog (n + 2) 36 vs) : ∃ x : Tanon36, vs = eTanon36 x ∧ kTanon36 x := by
  unfold Typ at h
  simp only [Try.underlying36] at h
  obtain ⟨ls, rfl, hl, h⟩ := h
  match ls, hl with
  | [v0, v1], _ =>
    obtain ⟨x0, rfl, k0⟩ := typ_Iu8_5 (n := n + 0) (h v0 (by simp))
    obtain ⟨x1, rfl, k1⟩ := typ_Iu8_5 (n := n + 0) (h v1 (by simp))
    exact ⟨⟨x0, x1⟩, rfl, k0, k1⟩
def kTthalweglaw02_Small (x : Tthalweglaw02_Small) : Prop := kIu8 (x.Lot) ∧ kLTanon111 (x.Sections) ∧ kTanon35 (x.Load) ∧ kTanon36 (x.Density)
theorem typ_Tthalweglaw02_Small_38 {n : Nat} {vs : List V} (h : Typ Try.prog (n + 4) 38 vs) : ∃ x : Tthalweglaw02_Small, vs = eTthalweglaw02_Small x ∧ kTthalweglaw02_Small x := by
  unfold Typ at h
  simp only [Try.underlying38] at h
  obtain ⟨ls, rfl, h⟩ := h
  obtain ⟨v0, v1, v2, v3, rfl, h0, h1, h2, h3⟩ := all2_4 h
  obtain ⟨x0, rfl, k0⟩ := typ_Iu8_5 (n := n + 2) h0
  obtain ⟨x1, rfl, k1⟩ := typ_LTanon111_34 (n := n + 0) h1
  obtain ⟨x2, rfl, k2⟩ := typ_Tanon35_35 (n := n + 1) h2
  obtain ⟨x3, rfl, k3⟩ := typ_Tanon36_36 (n := n + 1) h3
  exact ⟨⟨x0, x1, x2, x3⟩, rfl, k0, k1, k2, k3⟩
end Go.Ev
/- Tests that are decided by other tests. -/
namespace Go.Ev
theorem eqT_ne {α : Type} [BEq α] {a b : α} (h : (a == b) = true) : (a != b) = false := by rw [bne, h]; rfl
theorem eqF_ne {α : Type} [BEq α] {a b : α} (h : (a == b) = false) : (a != b) = true := by rw [bne, h]; rfl
theorem neT_eq {α : Type} [BEq α] {a b : α} (h : (a != b) = true) : (a == b) = false := by
  unfold bne at h; cases e : (a == b) with
  | true => rw [e] at h; cases h
  | false => rfl
theorem neF_eq {α : Type} [BEq α] {a b : α} (h : (a != b) = false) : (a == b) = true := by
  unfold bne at h; cases e : (a == b) with
  | true => rfl
  | false => rw [e] at h; cases h
end Go.Ev
/- Elements of arrays, by an index that is not written: by cases. -/
namespace Go.Ev
theorem ib_ok {j : Int} {c n : Nat} (e : j = (c : Int)) (hc : decide (c < n) = true) : 0 ≤ j ∧ j < (n : Int) := by
  have := of_decide_eq_true hc
  omega
theorem ib_nat {j : Int} {c : Nat} (e : j = (c : Int)) : j.toNat = c := by omega
variable {P : Program} {st : ST} {rs ws : List Nat}
theorem o_ib {K : V → ST → Prop} {j : Int} {c n b off size : Nat} {d : Decidable (0 ≤ j ∧ j < (n : Int))} (e : j = (c : Int)) (hc : decide (c < n) = true)
    (h : (RM.ret (.box b (off + c * size))).go st K) : (@RM.dec (0 ≤ j ∧ j < (n : Int)) (.ret (.box b (off + j.toNat * size))) d).go st K :=
  go_req (ib_ok e hc) (by rw [ib_nat e]; exact h)
theorem o_ibT {K : V → ST → List Nat → List Nat → Prop} {j : Int} {c n b off size : Nat} {d : Decidable (0 ≤ j ∧ j < (n : Int))} (e : j = (c : Int)) (hc : decide (c < n) = true)
    (h : (RM.ret (.box b (off + c * size))).goT st rs ws K) : (@RM.dec (0 ≤ j ∧ j < (n : Int)) (.ret (.box b (off + j.toNat * size))) d).goT st rs ws K :=
  goT_req (ib_ok e hc) (by rw [ib_nat e]; exact h)
theorem o_ix {K : V → ST → Prop} {j : Int} {c n size : Nat} {t : TypeId} {cs : List V} {f : V → RM} {d : Decidable (0 ≤ j ∧ j < (n : Int))} (e : j = (c : Int)) (hc : decide (c < n) = true)
    (h : (takeR P t cs (c * size) f).go st K) : (@RM.dec (0 ≤ j ∧ j < (n : Int)) (takeR P t cs (j.toNat * size) f) d).go st K :=
  go_req (ib_ok e hc) (by rw [ib_nat e]; exact h)
theorem o_ixT {K : V → ST → List Nat → List Nat → Prop} {j : Int} {c n size : Nat} {t : TypeId} {cs : List V} {f : V → RM} {d : Decidable (0 ≤ j ∧ j < (n : Int))} (e : j = (c : Int)) (hc : decide (c < n) = true)
    (h : (takeR P t cs (c * size) f).goT st rs ws K) : (@RM.dec (0 ≤ j ∧ j < (n : Int)) (takeR P t cs (j.toNat * size) f) d).goT st rs ws K :=
  goT_req (ib_ok e hc) (by rw [ib_nat e]; exact h)
/-! stores at two offsets -/
theorem o_stBT {α : Type} {enc : α → List V} {s o n : Nat} {l r : List α} {j : Int} {a x : α} {new : List V} {b : Nat} {e : TypeId} {d : Decidable (new.length = n ∧ j.toNat * s + o + n ≤ (recs enc l).length ∧ 0 ≤ j.toNat * s + o)} {K : V → ST → List Nat → List Nat → Prop} (hi : idx? l j = some a) (h : set? l j x = some r) (he : ∀ a, (enc a).length = s) (ho : o + n ≤ s)
    (hn : new.length = n) (hb : (enc a).take o ++ new ++ (enc a).drop (o + n) = enc x)
    (hk : (RM.ret .top).goT ((b, .row e s (recs enc r) 0) :: st) rs (b :: ws) K) : (@RM.dec (new.length = n ∧ j.toNat * s + o + n ≤ (recs enc l).length ∧ 0 ≤ j.toNat * s + o) (.put b (.row e s ((recs enc l).take (j.toNat * s + o) ++ new ++ (recs enc l).drop (j.toNat * s + o + n)) 0) (.ret .top)) d).goT st rs ws K := by
  obtain ⟨h1, h2⟩ := set_eq (o := o) hi h he ho hn hb
  rw [h2]; exact ⟨h1, hk⟩
theorem o_stC {α : Type} {enc : α → List V} {s o o2 n : Nat} {l r : List α} {j : Int} {a x : α} {new : List V} {b : Nat} {e : TypeId} {d : Decidable (new.length = n ∧ j.toNat * s + o + o2 + n ≤ (recs enc l).length ∧ 0 ≤ j.toNat * s + o + o2)} {K : V → ST → Prop} (hi : idx? l j = some a) (h : set? l j x = some r) (he : ∀ a, (enc a).length = s) (ho : (o + o2) + n ≤ s)
    (hn : new.length = n) (hb : (enc a).take (o + o2) ++ new ++ (enc a).drop ((o + o2) + n) = enc x)
    (hk : (RM.ret .top).go ((b, .row e s (recs enc r) 0) :: st) K) : (@RM.dec (new.length = n ∧ j.toNat * s + o + o2 + n ≤ (recs enc l).length ∧ 0 ≤ j.toNat * s + o + o2) (.put b (.row e s ((recs enc l).take (j.toNat * s + o + o2) ++ new ++ (recs enc l).drop (j.toNat * s + o + o2 + n)) 0) (.ret .top)) d).go st K := by
  obtain ⟨h1, h2⟩ := set_eq (o := (o + o2)) hi h he ho hn hb
  simp only [← Nat.add_assoc] at h1 h2
  rw [h2]; exact ⟨h1, hk⟩
theorem o_stCT {α : Type} {enc : α → List V} {s o o2 n : Nat} {l r : List α} {j : Int} {a x : α} {new : List V} {b : Nat} {e : TypeId} {d : Decidable (new.length = n ∧ j.toNat * s + o + o2 + n ≤ (recs enc l).length ∧ 0 ≤ j.toNat * s + o + o2)} {K : V → ST → List Nat → List Nat → Prop} (hi : idx? l j = some a) (h : set? l j x = some r) (he : ∀ a, (enc a).length = s) (ho : (o + o2) + n ≤ s)
    (hn : new.length = n) (hb : (enc a).take (o + o2) ++ new ++ (enc a).drop ((o + o2) + n) = enc x)
    (hk : (RM.ret .top).goT ((b, .row e s (recs enc r) 0) :: st) rs (b :: ws) K) : (@RM.dec (new.length = n ∧ j.toNat * s + o + o2 + n ≤ (recs enc l).length ∧ 0 ≤ j.toNat * s + o + o2) (.put b (.row e s ((recs enc l).take (j.toNat * s + o + o2) ++ new ++ (recs enc l).drop (j.toNat * s + o + o2 + n)) 0) (.ret .top)) d).goT st rs ws K := by
  obtain ⟨h1, h2⟩ := set_eq (o := (o + o2)) hi h he ho hn hb
  simp only [← Nat.add_assoc] at h1 h2
  rw [h2]; exact ⟨h1, hk⟩
/-- An element of a list that has been written to: it is as long as it was. -/
theorem oidx_len {α : Type} {l l0 : List α} {j : Int} {a : α} {s : Nat} (h : idx? l j = some a) (hl : l.length = l0.length) (hs : 0 < s) : 0 ≤ j ∧ j < (l0.length : Int) ∧ 0 < s := by
  have := oidx_ok h hs
  rw [hl] at this
  exact this
end Go.Ev
