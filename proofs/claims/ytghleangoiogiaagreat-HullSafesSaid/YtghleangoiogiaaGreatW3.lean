/- A part of the proof of HullSafes. -/
import Derived.Test.YtghleangoiogiaaGreatW2
/- What the functions do over typed data. -/
set_option linter.unusedVariables false
set_option linter.unusedSimpArgs false
namespace Go.Ev
open Go.Proofs
set_option maxHeartbeats 8000000
set_option maxRecDepth 100000
structure THullRow where
  Draft : Int
  Volume : Int
  deriving DecidableEq
def eTHullRow (x : THullRow) : List V := [(V.v (.int .i64 (x.Draft))), (V.v (.int .i64 (x.Volume)))]
structure THullHold where
  At : Int
  Lots : Int
  deriving DecidableEq
def eTHullHold (x : THullHold) : List V := [(V.v (.int .i64 (x.At))), (V.v (.int .i64 (x.Lots)))]
structure THullSection where
  Length : Int
  Light : Int
  Trim : Int
  Curve : List THullRow
  Holds : List THullHold
  deriving DecidableEq
def eTHullSection (x : THullSection) : List V := [(V.v (.int .i64 (x.Length))), (V.v (.int .i64 (x.Light))), (V.v (.int .i64 (x.Trim))), (V.sl (recs eTHullRow (x.Curve)) (x.Curve).length), (V.sl (recs eTHullHold (x.Holds)) (x.Holds).length)]
structure THull where
  Lot : Int
  Sections : List THullSection
  deriving DecidableEq
def eTHull (x : THull) : List V := [(V.v (.int .i64 (x.Lot))), (V.sl (recs eTHullSection (x.Sections)) (x.Sections).length)]
structure TBounds where
  Low : Int
  High : Int
  deriving DecidableEq
def eTBounds (x : TBounds) : List V := [(V.v (.int .i64 (x.Low))), (V.v (.int .i64 (x.High)))]
structure TRateRow where
  Flow : Int
  Level : Int
  deriving DecidableEq
def eTRateRow (x : TRateRow) : List V := [(V.v (.int .i64 (x.Flow))), (V.v (.int .i64 (x.Level)))]
structure TReach where
  Length : Int
  Delay : Int
  Base : TBounds
  Curve : List TRateRow
  Weir : Int
  Bottom : TBounds
  Flood : Int
  deriving DecidableEq
def eTReach (x : TReach) : List V := [(V.v (.int .i64 (x.Length))), (V.v (.int .i64 (x.Delay))), (V.v (.int .i64 (x.Base.Low))), (V.v (.int .i64 (x.Base.High))), (V.sl (recs eTRateRow (x.Curve)) (x.Curve).length), (V.v (.int .i64 (x.Weir))), (V.v (.int .i64 (x.Bottom.Low))), (V.v (.int .i64 (x.Bottom.High))), (V.v (.int .i64 (x.Flood)))]
structure TShoal where
  Place : Int
  Bed : TBounds
  Sounded : Int
  Grow : TBounds
  deriving DecidableEq
def eTShoal (x : TShoal) : List V := [(V.v (.int .i64 (x.Place))), (V.v (.int .i64 (x.Bed.Low))), (V.v (.int .i64 (x.Bed.High))), (V.v (.int .i64 (x.Sounded))), (V.v (.int .i64 (x.Grow.Low))), (V.v (.int .i64 (x.Grow.High)))]
structure TRiver where
  Reaches : List TReach
  Shoals : List TShoal
  deriving DecidableEq
def eTRiver (x : TRiver) : List V := [(V.sl (recs eTReach (x.Reaches)) (x.Reaches).length), (V.sl (recs eTShoal (x.Shoals)) (x.Shoals).length)]
structure TPass where
  Place : Int
  Hours : TBounds
  deriving DecidableEq
def eTPass (x : TPass) : List V := [(V.v (.int .i64 (x.Place))), (V.v (.int .i64 (x.Hours.Low))), (V.v (.int .i64 (x.Hours.High)))]
structure TPassage where
  River : TRiver
  Sides : List (List TBounds)
  Way : List TPass
  Keel : Int
  deriving DecidableEq
def eTPassage (x : TPassage) : List V := [(V.sl (recs eTReach (x.River.Reaches)) (x.River.Reaches).length), (V.sl (recs eTShoal (x.River.Shoals)) (x.River.Shoals).length), (V.sl (recs (eS eTBounds) (x.Sides)) (x.Sides).length), (V.sl (recs eTPass (x.Way)) (x.Way).length), (V.v (.int .i64 (x.Keel)))]
structure Thull_hold where
  HullHold : THullHold
  arm_ : Int
  deriving DecidableEq
def eThull_hold (x : Thull_hold) : List V := [(V.v (.int .i64 (x.HullHold.At))), (V.v (.int .i64 (x.HullHold.Lots))), (V.v (.int .i64 (x.arm_)))]
structure Thull_ship where
  Hull : THull
  limit_ : Int
  trim_ : Int
  mass_ : Int
  moment_ : Int
  storage_ : List Thull_hold
  deriving DecidableEq
def eThull_ship (x : Thull_ship) : List V := [(V.v (.int .i64 (x.Hull.Lot))), (V.sl (recs eTHullSection (x.Hull.Sections)) (x.Hull.Sections).length), (V.v (.int .i64 (x.limit_))), (V.v (.int .i64 (x.trim_))), (V.v (.int .i64 (x.mass_))), (V.v (.int .i64 (x.moment_))), (V.sl (recs eThull_hold (x.storage_)) (x.storage_).length)]
structure THullFloat where
  Mean : TBounds
  Deep : TBounds
  Head : Int
  deriving DecidableEq
def eTHullFloat (x : THullFloat) : List V := [(V.v (.int .i64 (x.Mean.Low))), (V.v (.int .i64 (x.Mean.High))), (V.v (.int .i64 (x.Deep.Low))), (V.v (.int .i64 (x.Deep.High))), (V.v (.int .i64 (x.Head)))]
structure Triver_site where
  Reach : TReach
  number_ : Int
  place_ : Int
  shoals_ : List TShoal
  deriving DecidableEq
def eTriver_site (x : Triver_site) : List V := [(V.v (.int .i64 (x.Reach.Length))), (V.v (.int .i64 (x.Reach.Delay))), (V.v (.int .i64 (x.Reach.Base.Low))), (V.v (.int .i64 (x.Reach.Base.High))), (V.sl (recs eTRateRow (x.Reach.Curve)) (x.Reach.Curve).length), (V.v (.int .i64 (x.Reach.Weir))), (V.v (.int .i64 (x.Reach.Bottom.Low))), (V.v (.int .i64 (x.Reach.Bottom.High))), (V.v (.int .i64 (x.Reach.Flood))), (V.v (.int .i64 (x.number_))), (V.v (.int .i64 (x.place_))), (V.sl (recs eTShoal (x.shoals_)) (x.shoals_).length)]
structure Triver_stream where
  River : TRiver
  flows_ : List (List TBounds)
  deriving DecidableEq
def eTriver_stream (x : Triver_stream) : List V := [(V.sl (recs eTReach (x.River.Reaches)) (x.River.Reaches).length), (V.sl (recs eTShoal (x.River.Shoals)) (x.River.Shoals).length), (V.sl (recs (eS eTBounds) (x.flows_)) (x.flows_).length)]
structure Thull_leastDepth where
  Bounds : TBounds
  pass_ : Int
  hour_ : Int
  deriving DecidableEq
def eThull_leastDepth (x : Thull_leastDepth) : List V := [(V.v (.int .i64 (x.Bounds.Low))), (V.v (.int .i64 (x.Bounds.High))), (V.v (.int .i64 (x.pass_))), (V.v (.int .i64 (x.hour_)))]
structure Tthalweglaw02_Loaded where
  Hull : THull
  Load : List Int
  Density : TBounds
  deriving DecidableEq
def eTthalweglaw02_Loaded (x : Tthalweglaw02_Loaded) : List V := [(V.v (.int .i64 (x.Hull.Lot))), (V.sl (recs eTHullSection (x.Hull.Sections)) (x.Hull.Sections).length), (V.sl (recs (eI .i64) (x.Load)) (x.Load).length), (V.v (.int .i64 (x.Density.Low))), (V.v (.int .i64 (x.Density.High)))]

noncomputable def L_thalweglaw02_great_1 (a0 : THull) : LoopD (Int) (Unit ⊕ Bool) (Unit) where
  step := fun s => match s with
    | s1 =>
      bif (decide (s1 < ((a0.Sections).length : Int))) then
        bif (decide (s1 < 11)) then
          (idx? (a0.Sections) (s1)).bind fun x4 =>
          bif (decide (((x4.Curve).length : Int) > 25)) then
            some (.inr (.inr true))
          else
            (idx? (a0.Sections) (s1)).bind fun x5 =>
            bif (decide (((x5.Holds).length : Int) > 8)) then
              some (.inr (.inr true))
            else
              some (.inl (wr (s1 + 1)))
        else
          some (.inr (.inl ()))
      else
        some (.inr (.inl ()))
  at_ := fun s gh => match s, gh with
    | s1, () => ⟨[(1, (V.box 0 0)), (2, (V.v (.bool (false)))), (3, (V.v (.int .i64 (s1))))], [(0, Bx.var [(V.v (.int .i64 (a0.Lot))), (V.sl (recs eTHullSection (a0.Sections)) (a0.Sections).length)] false)], 1⟩
noncomputable def F_thalweglaw02_great : (THull) → Option (Bool) := fun x => match x with
  | (a0) =>
    (loopC (L_thalweglaw02_great_1 a0).step 0).bind fun e => match e with
    | (.inl ()) =>
      some (decide (((a0.Sections).length : Int) > 10))
    | (.inr r6) =>
      some r6

noncomputable def L_thalweglaw02_wide_1 (a0 : TPassage) : LoopD (Int) (Unit ⊕ Bool) (Unit) where
  step := fun s => match s with
    | s1 =>
      bif (decide (s1 < ((a0.River.Reaches).length : Int))) then
        (idx? (a0.River.Reaches) (s1)).bind fun x3 =>
        bif (decide (((x3.Curve).length : Int) > 35)) then
          some (.inr (.inr true))
        else
          some (.inl (wr (s1 + 1)))
      else
        some (.inr (.inl ()))
  at_ := fun s gh => match s, gh with
    | s1, () => ⟨[(1, (V.box 0 0)), (2, (V.v (.bool (false)))), (3, (V.v (.int .i64 (s1))))], [(0, Bx.var [(V.sl (recs eTReach (a0.River.Reaches)) (a0.River.Reaches).length), (V.sl (recs eTShoal (a0.River.Shoals)) (a0.River.Shoals).length), (V.sl (recs (eS eTBounds) (a0.Sides)) (a0.Sides).length), (V.sl (recs eTPass (a0.Way)) (a0.Way).length), (V.v (.int .i64 (a0.Keel)))] false)], 1⟩
noncomputable def L_thalweglaw02_wide_2 (a0 : TPassage) : LoopD (Int) (Unit ⊕ Bool) (Unit) where
  step := fun s => match s with
    | s4 =>
      bif (decide (s4 < ((a0.Sides).length : Int))) then
        (idx? (a0.Sides) (s4)).bind fun x9 =>
        bif (decide (((x9).length : Int) > 40)) then
          (idx? (a0.Sides) (s4)).bind fun x10 =>
          bif (decide (((x10).length : Int) ≤ 400)) then
            some (.inr (.inr true))
          else
            (idx? (a0.Sides) (s4)).bind fun x11 =>
            bif (decide (((x11).length : Int) > 450)) then
              some (.inr (.inr true))
            else
              some (.inl (wr (s4 + 1)))
        else
          (idx? (a0.Sides) (s4)).bind fun x12 =>
          bif (decide (((x12).length : Int) > 450)) then
            some (.inr (.inr true))
          else
            some (.inl (wr (s4 + 1)))
      else
        some (.inr (.inl ()))
  at_ := fun s gh => match s, gh with
    | s4, () => ⟨[(1, (V.box 0 0)), (2, (V.v (.bool (false)))), (4, (V.v (.int .i64 (s4))))], [(0, Bx.var [(V.sl (recs eTReach (a0.River.Reaches)) (a0.River.Reaches).length), (V.sl (recs eTShoal (a0.River.Shoals)) (a0.River.Shoals).length), (V.sl (recs (eS eTBounds) (a0.Sides)) (a0.Sides).length), (V.sl (recs eTPass (a0.Way)) (a0.Way).length), (V.v (.int .i64 (a0.Keel)))] false)], 1⟩
noncomputable def F_thalweglaw02_wide : (TPassage) → Option (Bool) := fun x => match x with
  | (a0) =>
    bif (decide (((a0.River.Reaches).length : Int) > 5)) then
      some true
    else
      bif (decide (((a0.River.Shoals).length : Int) > 45)) then
        some true
      else
        bif (decide (((a0.Sides).length : Int) > 6)) then
          some true
        else
          bif (decide (((a0.Way).length : Int) > 12)) then
            some true
          else
            (loopC (L_thalweglaw02_wide_1 a0).step 0).bind fun e => match e with
            | (.inl ()) =>
              (loopC (L_thalweglaw02_wide_2 a0).step 0).bind fun e => match e with
              | (.inl ()) =>
                some false
              | (.inr r13) =>
                some r13
            | (.inr r14) =>
              some r14

noncomputable def L_thalweglaw02_way_1 (a0 : TPassage) (l1 : List TShoal) : LoopD (Int × (List TReach)) (((List TReach))) (Unit) where
  step := fun s => match s with
    | (s2, s3) =>
      bif (decide (s2 < ((a0.River.Reaches).length : Int))) then
        (idx? (a0.River.Reaches) (s2)).bind fun x7 =>
        (app? (([] : List TRateRow)) (x7.Curve) 16).bind fun l8 =>
        (app? (s3) (([(⟨x7.Length, x7.Delay, x7.Base, l8, x7.Weir, x7.Bottom, x7.Flood⟩ : TReach)] : List TReach)) 88).bind fun l9 =>
        some (.inl ((wr (s2 + 1)), l9))
      else
        some (.inr s3)
  at_ := fun s gh => match s, gh with
    | (s2, s3), () => ⟨[(1, (V.box 0 0)), (2, (V.box 1 0)), (3, (V.box 8 0)), (4, (V.v (.int .i64 (s2))))], [(0, Bx.var [(V.sl (recs eTReach (a0.River.Reaches)) (a0.River.Reaches).length), (V.sl (recs eTShoal (a0.River.Shoals)) (a0.River.Shoals).length), (V.sl (recs (eS eTBounds) (a0.Sides)) (a0.Sides).length), (V.sl (recs eTPass (a0.Way)) (a0.Way).length), (V.v (.int .i64 (a0.Keel)))] false), (1, Bx.var [(V.v (.slice none 0 0)), (V.v (.slice none 0 0)), (V.v (.slice none 0 0)), (V.v (.slice none 0 0)), (V.v (.int .i64 (0)))] false), (8, Bx.var [(V.osl 9 (s3).length), (V.sl (recs eTShoal (l1)) (l1).length)] false), (9, Bx.row 67 9 (recs eTReach (s3)) 0)], 10⟩
noncomputable def L_thalweglaw02_way_2 (a0 : TPassage) (s10 : List TReach) (l1 : List TShoal) (l11 : List TPass) : LoopD (Int × (List (List TBounds))) (((List (List TBounds)))) (Unit) where
  step := fun s => match s with
    | (s12, s13) =>
      bif (decide (s12 < ((a0.Sides).length : Int))) then
        (idx? (a0.Sides) (s12)).bind fun x17 =>
        (app? (([] : List TBounds)) (x17) 16).bind fun l18 =>
        (app? (s13) (([l18] : List (List TBounds))) 24).bind fun l19 =>
        some (.inl ((wr (s12 + 1)), l19))
      else
        some (.inr s13)
  at_ := fun s gh => match s, gh with
    | (s12, s13), () => ⟨[(1, (V.box 0 0)), (2, (V.box 1 0)), (6, (V.box 24 0)), (7, (V.v (.int .i64 (s12))))], [(0, Bx.var [(V.sl (recs eTReach (a0.River.Reaches)) (a0.River.Reaches).length), (V.sl (recs eTShoal (a0.River.Shoals)) (a0.River.Shoals).length), (V.sl (recs (eS eTBounds) (a0.Sides)) (a0.Sides).length), (V.sl (recs eTPass (a0.Way)) (a0.Way).length), (V.v (.int .i64 (a0.Keel)))] false), (1, Bx.var [(V.v (.slice none 0 0)), (V.v (.slice none 0 0)), (V.v (.slice none 0 0)), (V.v (.slice none 0 0)), (V.v (.int .i64 (0)))] false), (24, Bx.var [(V.sl (recs eTReach (s10)) (s10).length), (V.sl (recs eTShoal (l1)) (l1).length), (V.osl 25 (s13).length), (V.sl (recs eTPass (l11)) (l11).length), (V.v (.int .i64 (a0.Keel)))] false), (25, Bx.row 68 1 (recs (eS eTBounds) (s13)) 0)], 26⟩
noncomputable def F_thalweglaw02_way : (TPassage) → Option (TPassage) := fun x => match x with
  | (a0) =>
    (app? (([] : List TShoal)) (a0.River.Shoals) 48).bind fun l1 =>
    (loopC (L_thalweglaw02_way_1 a0 l1).step (0, ([] : List TReach))).bind fun e => match e with
    | s10 =>
      (app? (([] : List TPass)) (a0.Way) 24).bind fun l11 =>
      (loopC (L_thalweglaw02_way_2 a0 s10 l1 l11).step (0, ([] : List (List TBounds)))).bind fun e => match e with
      | s20 =>
        some (⟨(⟨s10, l1⟩ : TRiver), s20, l11, a0.Keel⟩ : TPassage)

noncomputable def L_numbers_Every_int_1 (a1 : (Int → Option Bool)) (a0 : List Int) (g : FuncId) (caps : List V) : LoopD (Int) (Unit ⊕ Bool) (Unit) where
  step := fun s => match s with
    | s1 =>
      bif (decide (s1 < ((a0).length : Int))) then
        (idx? (a0) (s1)).bind fun x4 =>
        (a1 (x4)).bind fun y5 =>
        bif (!y5) then
          some (.inr (.inr false))
        else
          some (.inl (wr (s1 + 1)))
      else
        some (.inr (.inl ()))
  at_ := fun s gh => match s, gh with
    | s1, () => ⟨[(1, (V.fn g caps)), (4, (V.v (.bool (false)))), (7, (V.sl (recs (eI .i64) (a0)) (a0).length)), (8, (V.v (.int .i64 (((a0).length : Int))))), (9, (V.v (.int .i64 (s1))))], [], 0⟩
noncomputable def F_numbers_Every_int : ((List Int) × ((Int → Option Bool)) × FuncId × (List V)) → Option (Bool) := fun x => match x with
  | (a0, a1, g, caps) =>
    (loopC (L_numbers_Every_int_1 a1 a0 g caps).step 0).bind fun e => match e with
    | (.inl ()) =>
      some true
    | (.inr r6) =>
      some r6

noncomputable def F_numbers_Within_1 : (Int × Int × Int) → Option (Bool) := fun x => match x with
  | (a0, c0, c1) =>
    bif (decide (c0 ≤ a0)) then
      some (decide (a0 ≤ c1))
    else
      some false

noncomputable def F_numbers_Within : (Int × Int × (List Int)) → Option (Bool) := fun x => match x with
  | (a0, a1, a2) =>
    (F_numbers_Every_int (a2, (fun q => F_numbers_Within_1 (q, a0, a1)), 64, [(V.fptr [(V.v (.int .i64 (a0)))]), (V.fptr [(V.v (.int .i64 (a1)))])])).bind fun y1 =>
    some y1

noncomputable def L_hull_length_1 (a0 : List THullSection) : LoopD (Int × Int) (Int) (Unit) where
  step := fun s => match s with
    | (s1, s2) =>
      bif (decide (s2 < ((a0).length : Int))) then
        (idx? (a0) (s2)).bind fun x4 =>
        some (.inl ((wr (s1 + x4.Length)), (wr (s2 + 1))))
      else
        some (.inr s1)
  at_ := fun s gh => match s, gh with
    | (s1, s2), () => ⟨[(2, (V.v (.int .i64 (0)))), (3, (V.v (.int .i64 (s1)))), (6, (V.sl (recs eTHullSection (a0)) (a0).length)), (7, (V.v (.int .i64 (((a0).length : Int))))), (8, (V.v (.int .i64 (s2))))], [], 0⟩
noncomputable def F_hull_length : ((List THullSection)) → Option (Int) := fun x => match x with
  | (a0) =>
    (loopC (L_hull_length_1 a0).step (0, 0)).bind fun e => match e with
    | s5 =>
      some s5

noncomputable def L_numbers_Every_HullSection_1 (a1 : (THullSection → Option Bool)) (a0 : List THullSection) (g : FuncId) (caps : List V) : LoopD (Int) (Unit ⊕ Bool) (Unit) where
  step := fun s => match s with
    | s1 =>
      bif (decide (s1 < ((a0).length : Int))) then
        (idx? (a0) (s1)).bind fun x4 =>
        (a1 (x4)).bind fun y5 =>
        bif (!y5) then
          some (.inr (.inr false))
        else
          some (.inl (wr (s1 + 1)))
      else
        some (.inr (.inl ()))
  at_ := fun s gh => match s, gh with
    | s1, () => ⟨[(1, (V.fn g caps)), (4, (V.v (.bool (false)))), (7, (V.sl (recs eTHullSection (a0)) (a0).length)), (8, (V.v (.int .i64 (((a0).length : Int))))), (9, (V.v (.int .i64 (s1))))], [], 0⟩
noncomputable def F_numbers_Every_HullSection : ((List THullSection) × ((THullSection → Option Bool)) × FuncId × (List V)) → Option (Bool) := fun x => match x with
  | (a0, a1, g, caps) =>
    (loopC (L_numbers_Every_HullSection_1 a1 a0 g caps).step 0).bind fun e => match e with
    | (.inl ()) =>
      some true
    | (.inr r6) =>
      some r6

noncomputable def L_hull_validCurve_1 (a0 : List THullRow) : LoopD (Int) (Unit ⊕ Bool) (Unit) where
  step := fun s => match s with
    | s3 =>
      bif (decide (s3 < ((a0).length : Int))) then
        (idx? (a0) ((wr (s3 - 1)))).bind fun x8 =>
        (idx? (a0) (s3)).bind fun x9 =>
        bif (decide (x8.Draft ≥ x9.Draft)) then
          some (.inr (.inr false))
        else
          (idx? (a0) ((wr (s3 - 1)))).bind fun x10 =>
          (idx? (a0) (s3)).bind fun x11 =>
          bif (decide (x10.Volume ≥ x11.Volume)) then
            some (.inr (.inr false))
          else
            some (.inl (wr (s3 + 1)))
      else
        some (.inr (.inl ()))
  at_ := fun s gh => match s, gh with
    | s3, () => ⟨[(0, (V.sl (recs eTHullRow (a0)) (a0).length)), (2, (V.v (.bool (false)))), (3, (V.v (.int .i64 (s3))))], [], 0⟩
noncomputable def F_hull_validCurve : ((List THullRow)) → Option (Bool) := fun x => match x with
  | (a0) =>
    (F_numbers_Within (2, 20, ([((a0).length : Int)] : List Int))).bind fun y1 =>
    bif (!y1) then
      some false
    else
      (idx? (a0) (0)).bind fun x2 =>
      bif (!(x2.Draft == 0 && (x2.Volume == 0 && true))) then
        some false
      else
        (loopC (L_hull_validCurve_1 a0).step 1).bind fun e => match e with
        | (.inl ()) =>
          (idx? (a0) ((wr (((a0).length : Int) - 1)))).bind fun x12 =>
          bif (decide (x12.Draft ≤ 1000)) then
            some (decide (x12.Volume ≤ 100000))
          else
            some false
        | (.inr r13) =>
          some r13

noncomputable def L_numbers_Every_HullHold_1 (a1 : (THullHold → Option Bool)) (a0 : List THullHold) (g : FuncId) (caps : List V) : LoopD (Int) (Unit ⊕ Bool) (Unit) where
  step := fun s => match s with
    | s1 =>
      bif (decide (s1 < ((a0).length : Int))) then
        (idx? (a0) (s1)).bind fun x4 =>
        (a1 (x4)).bind fun y5 =>
        bif (!y5) then
          some (.inr (.inr false))
        else
          some (.inl (wr (s1 + 1)))
      else
        some (.inr (.inl ()))
  at_ := fun s gh => match s, gh with
    | s1, () => ⟨[(1, (V.fn g caps)), (4, (V.v (.bool (false)))), (7, (V.sl (recs eTHullHold (a0)) (a0).length)), (8, (V.v (.int .i64 (((a0).length : Int))))), (9, (V.v (.int .i64 (s1))))], [], 0⟩
noncomputable def F_numbers_Every_HullHold : ((List THullHold) × ((THullHold → Option Bool)) × FuncId × (List V)) → Option (Bool) := fun x => match x with
  | (a0, a1, g, caps) =>
    (loopC (L_numbers_Every_HullHold_1 a1 a0 g caps).step 0).bind fun e => match e with
    | (.inl ()) =>
      some true
    | (.inr r6) =>
      some r6

noncomputable def F_hull_validSection_1 : (THullHold × THullSection) → Option (Bool) := fun x => match x with
  | (a0, c0) =>
    (F_numbers_Within (0, c0.Length, ([a0.At] : List Int))).bind fun y1 =>
    bif y1 then
      (F_numbers_Within (0, 20, ([a0.Lots] : List Int))).bind fun y2 =>
      some y2
    else
      some false

noncomputable def F_hull_validSection : (THullSection) → Option (Bool) := fun x => match x with
  | (a0) =>
    (F_numbers_Within (1, 100, ([a0.Length] : List Int))).bind fun y1 =>
    bif y1 then
      (F_numbers_Within (0, 10000, ([a0.Light] : List Int))).bind fun y2 =>
      bif y2 then
        (F_numbers_Within (1, 100000, ([a0.Trim] : List Int))).bind fun y3 =>
        bif y3 then
          (F_hull_validCurve (a0.Curve)).bind fun y4 =>
          bif y4 then
            (F_numbers_Every_HullHold (a0.Holds, (fun q => F_hull_validSection_1 (q, a0)), 103, [(V.fptr [(V.v (.int .i64 (a0.Length))), (V.v (.int .i64 (a0.Light))), (V.v (.int .i64 (a0.Trim))), (V.sl (recs eTHullRow (a0.Curve)) (a0.Curve).length), (V.sl (recs eTHullHold (a0.Holds)) (a0.Holds).length)])])).bind fun y5 =>
            some y5
          else
            some false
        else
          some false
      else
        some false
    else
      some false

noncomputable def L_hull_holds_1 (a0 : List THullSection) : LoopD (Int × Int) (Int) (Unit) where
  step := fun s => match s with
    | (s1, s2) =>
      bif (decide (s2 < ((a0).length : Int))) then
        (idx? (a0) (s2)).bind fun x4 =>
        some (.inl ((wr (s1 + ((x4.Holds).length : Int))), (wr (s2 + 1))))
      else
        some (.inr s1)
  at_ := fun s gh => match s, gh with
    | (s1, s2), () => ⟨[(2, (V.v (.int .i64 (0)))), (3, (V.v (.int .i64 (s1)))), (6, (V.sl (recs eTHullSection (a0)) (a0).length)), (7, (V.v (.int .i64 (((a0).length : Int))))), (8, (V.v (.int .i64 (s2))))], [], 0⟩
noncomputable def F_hull_holds : ((List THullSection)) → Option (Int) := fun x => match x with
  | (a0) =>
    (loopC (L_hull_holds_1 a0).step (0, 0)).bind fun e => match e with
    | s5 =>
      some s5

noncomputable def F_hull_Check : (THull) → Option (Int) := fun x => match x with
  | (a0) =>
    (F_numbers_Within (1, 1000, ([a0.Lot] : List Int))).bind fun y1 =>
    bif (!y1) then
      some 2
    else
      (F_numbers_Within (1, 6, ([((a0.Sections).length : Int)] : List Int))).bind fun y2 =>
      bif (!y2) then
        some 2
      else
        (F_numbers_Every_HullSection (a0.Sections, (fun q => F_hull_validSection (q)), 73, [])).bind fun y3 =>
        bif (!y3) then
          some 2
        else
          (F_hull_length (a0.Sections)).bind fun y4 =>
          bif (decide (y4 > 200)) then
            some 2
          else
            (F_hull_holds (a0.Sections)).bind fun y5 =>
            bif (decide (y5 > 4)) then
              some 2
            else
              some 0

noncomputable def L_hull_launch_1 (s3 : Int) (a0 : THull) (s4 : Int) (x19 : THullSection) (s5 : Int) (x20 : THullRow) (s6 : Int) (s7 : Int) (s8 : Int) : LoopD (Int × (List Thull_hold)) (((List Thull_hold))) (Unit) where
  step := fun s => match s with
    | (s21, s22) =>
      bif (decide (s21 < ((x19.Holds).length : Int))) then
        (idx? (x19.Holds) (s21)).bind fun x25 =>
        (app? (s22) (([(⟨x25, (wr (s3 + (wr (2 * x25.At))))⟩ : Thull_hold)] : List Thull_hold)) 24).bind fun l26 =>
        some (.inl ((wr (s21 + 1)), l26))
      else
        some (.inr s22)
  at_ := fun s gh => match s, gh with
    | (s21, s22), () => ⟨[(2, (V.box 1 0)), (3, (V.v (.int .i64 (0)))), (5, (V.box 10 0)), (6, (V.v (.int .i64 (s3)))), (8, (V.box 15 0)), (24, (V.sl (recs eTHullSection (a0.Sections)) (a0.Sections).length)), (25, (V.v (.int .i64 (((a0.Sections).length : Int))))), (26, (V.v (.int .i64 (s4)))), (67, (V.sl (recs eTHullHold (x19.Holds)) (x19.Holds).length)), (68, (V.v (.int .i64 (((x19.Holds).length : Int))))), (69, (V.v (.int .i64 (s21))))], [(1, Bx.var [(V.v (.int .i64 (0))), (V.v (.slice none 0 0)), (V.v (.int .i64 (0))), (V.v (.int .i64 (0))), (V.v (.int .i64 (0))), (V.v (.int .i64 (0))), (V.v (.slice none 0 0))] false), (10, Bx.var [(V.v (.int .i64 (a0.Lot))), (V.sl (recs eTHullSection (a0.Sections)) (a0.Sections).length), (V.v (.int .i64 ((minmax false s5 x20.Draft)))), (V.v (.int .i64 ((wr (s6 + x19.Trim))))), (V.v (.int .i64 ((wr (s7 + x19.Light))))), (V.v (.int .i64 ((wr (s8 + (wr (x19.Light * (wr (s3 + x19.Length))))))))), (V.osl 11 (s22).length)] false), (11, Bx.row 138 3 (recs eThull_hold (s22)) 0), (15, Bx.var [(V.v (.int .i64 (x19.Length))), (V.v (.int .i64 (x19.Light))), (V.v (.int .i64 (x19.Trim))), (V.sl (recs eTHullRow (x19.Curve)) (x19.Curve).length), (V.sl (recs eTHullHold (x19.Holds)) (x19.Holds).length)] false)], 16⟩
noncomputable def L_hull_launch_2 (a0 : THull) : LoopD (Int × Int × Int × Int × Int × Int × (List Thull_hold)) ((Int × Int × Int × Int × (List Thull_hold))) (Unit) where
  step := fun s => match s with
    | (s3, s4, s5, s6, s7, s8, s9) =>
      bif (decide (s4 < ((a0.Sections).length : Int))) then
        (idx? (a0.Sections) (s4)).bind fun x19 =>
        (idx? (x19.Curve) ((wr (((x19.Curve).length : Int) - 1)))).bind fun x20 =>
        (loopC (L_hull_launch_1 s3 a0 s4 x19 s5 x20 s6 s7 s8).step (0, s9)).bind fun e => match e with
        | s27 =>
          some (.inl ((wr (s3 + (wr (2 * x19.Length)))), (wr (s4 + 1)), (minmax false s5 x20.Draft), (wr (s6 + x19.Trim)), (wr (s7 + x19.Light)), (wr (s8 + (wr (x19.Light * (wr (s3 + x19.Length)))))), s27))
      else
        some (.inr (s5, s6, s7, s8, s9))
  at_ := fun s gh => match s, gh with
    | (s3, s4, s5, s6, s7, s8, s9), () => ⟨[(2, (V.box 1 0)), (3, (V.v (.int .i64 (0)))), (5, (V.box 10 0)), (6, (V.v (.int .i64 (s3)))), (24, (V.sl (recs eTHullSection (a0.Sections)) (a0.Sections).length)), (25, (V.v (.int .i64 (((a0.Sections).length : Int))))), (26, (V.v (.int .i64 (s4))))], [(1, Bx.var [(V.v (.int .i64 (0))), (V.v (.slice none 0 0)), (V.v (.int .i64 (0))), (V.v (.int .i64 (0))), (V.v (.int .i64 (0))), (V.v (.int .i64 (0))), (V.v (.slice none 0 0))] false), (10, Bx.var [(V.v (.int .i64 (a0.Lot))), (V.sl (recs eTHullSection (a0.Sections)) (a0.Sections).length), (V.v (.int .i64 (s5))), (V.v (.int .i64 (s6))), (V.v (.int .i64 (s7))), (V.v (.int .i64 (s8))), (V.osl 11 (s9).length)] false), (11, Bx.row 138 3 (recs eThull_hold (s9)) 0)], 12⟩
noncomputable def F_hull_launch : (THull) → Option (Thull_ship × Int) := fun x => match x with
  | (a0) =>
    (F_hull_Check (a0)).bind fun y1 =>
    bif (y1 != 0) then
      some ((⟨(⟨0, ([] : List THullSection)⟩ : THull), 0, 0, 0, 0, ([] : List Thull_hold)⟩ : Thull_ship), y1)
    else
      (F_hull_length (a0.Sections)).bind fun y2 =>
      (loopC (L_hull_launch_2 a0).step ((wr (0 - y2)), 0, 1000, 0, 0, 0, ([] : List Thull_hold))).bind fun e => match e with
      | (s28, s29, s30, s31, s32) =>
        some ((⟨a0, s28, s29, s30, s31, s32⟩ : Thull_ship), 0)

noncomputable def L_hull_ship_checkLoad_1 (a1 : List Int) (a0 : Thull_ship) : LoopD (Int) (Unit ⊕ Int) (Unit) where
  step := fun s => match s with
    | s1 =>
      bif (decide (s1 < ((a1).length : Int))) then
        (idx? (a1) (s1)).bind fun x5 =>
        (idx? (a0.storage_) (s1)).bind fun x6 =>
        (F_numbers_Within (0, x6.HullHold.Lots, ([x5] : List Int))).bind fun y7 =>
        bif (!y7) then
          some (.inr (.inr 3))
        else
          some (.inl (wr (s1 + 1)))
      else
        some (.inr (.inl ()))
  at_ := fun s gh => match s, gh with
    | s1, () => ⟨[(2, (V.box 0 0)), (4, (V.v (.int .i64 (0)))), (13, (V.sl (recs (eI .i64) (a1)) (a1).length)), (14, (V.v (.int .i64 (((a1).length : Int))))), (15, (V.v (.int .i64 (s1))))], [(0, Bx.var [(V.v (.int .i64 (a0.Hull.Lot))), (V.sl (recs eTHullSection (a0.Hull.Sections)) (a0.Hull.Sections).length), (V.v (.int .i64 (a0.limit_))), (V.v (.int .i64 (a0.trim_))), (V.v (.int .i64 (a0.mass_))), (V.v (.int .i64 (a0.moment_))), (V.sl (recs eThull_hold (a0.storage_)) (a0.storage_).length)] false)], 1⟩
noncomputable def F_hull_ship_checkLoad : (Thull_ship × (List Int)) → Option (Int) := fun x => match x with
  | (a0, a1) =>
    bif (((a1).length : Int) != ((a0.storage_).length : Int)) then
      some 4
    else
      (loopC (L_hull_ship_checkLoad_1 a1 a0).step 0).bind fun e => match e with
      | (.inl ()) =>
        some 0
      | (.inr r8) =>
        some r8

noncomputable def F_numbers_Valid : (TBounds × Int × Int) → Option (Bool) := fun x => match x with
  | (a0, a1, a2) =>
    bif (decide (a0.Low ≤ a0.High)) then
      (F_numbers_Within (a1, a2, ([a0.Low, a0.High] : List Int))).bind fun y1 =>
      some y1
    else
      some false

noncomputable def F_hull_validDensity : (TBounds) → Option (Bool) := fun x => match x with
  | (a0) =>
    (F_numbers_Valid (a0, 900, 1100)).bind fun y1 =>
    some y1

noncomputable def L_hull_ship_loaded_1 (a1 : List Int) (a0 : Thull_ship) : LoopD (Int × Int × Int) ((Int × Int)) (Unit) where
  step := fun s => match s with
    | (s1, s2, s3) =>
      bif (decide (s3 < ((a1).length : Int))) then
        (idx? (a1) (s3)).bind fun x6 =>
        (idx? (a0.storage_) (s3)).bind fun x7 =>
        some (.inl ((wr (s1 + x6)), (wr (s2 + (wr ((wr (x6 * a0.Hull.Lot)) * x7.arm_)))), (wr (s3 + 1))))
      else
        some (.inr (s1, s2))
  at_ := fun s gh => match s, gh with
    | (s1, s2, s3), () => ⟨[(2, (V.box 0 0)), (4, (V.v (.int .i64 (s1)))), (5, (V.v (.int .i64 (s2)))), (10, (V.sl (recs (eI .i64) (a1)) (a1).length)), (11, (V.v (.int .i64 (((a1).length : Int))))), (12, (V.v (.int .i64 (s3))))], [(0, Bx.var [(V.v (.int .i64 (a0.Hull.Lot))), (V.sl (recs eTHullSection (a0.Hull.Sections)) (a0.Hull.Sections).length), (V.v (.int .i64 (a0.limit_))), (V.v (.int .i64 (a0.trim_))), (V.v (.int .i64 (a0.mass_))), (V.v (.int .i64 (a0.moment_))), (V.sl (recs eThull_hold (a0.storage_)) (a0.storage_).length)] false)], 1⟩
noncomputable def F_hull_ship_loaded : (Thull_ship × (List Int)) → Option (Int × Int) := fun x => match x with
  | (a0, a1) =>
    (loopC (L_hull_ship_loaded_1 a1 a0).step (0, a0.moment_, 0)).bind fun e => match e with
    | (s8, s9) =>
      some (s8, s9)

noncomputable def F_numbers_Down : (Int × Int) → Option (Int) := fun x => match x with
  | (a0, a1) =>
    (nz? (a1)).bind fun _ =>
    bif (decide ((Int.tmod a0 a1) < 0)) then
      (nz? (a1)).bind fun _ =>
      some (wr ((wr (Int.tdiv a0 a1)) - 1))
    else
      (nz? (a1)).bind fun _ =>
      some (wr (Int.tdiv a0 a1))

noncomputable def F_numbers_Up : (Int × Int) → Option (Int) := fun x => match x with
  | (a0, a1) =>
    (F_numbers_Down ((wr (0 - a0)), a1)).bind fun y1 =>
    some (wr (0 - y1))

noncomputable def L_sort_Search_1 (a1 : (Int → Option Bool)) (g : FuncId) (caps : List V) : LoopD (Int × Int) (Int) (Unit) where
  step := fun s => match s with
    | (s1, s2) =>
      bif (decide (s1 < s2)) then
        (a1 ((wr ((Int.fdiv ((IntKind.wrap .u64 ((wr (s1 + s2))))) 2))))).bind fun y4 =>
        bif (!y4) then
          some (.inl ((wr ((wr ((Int.fdiv ((IntKind.wrap .u64 ((wr (s1 + s2))))) 2))) + 1)), s2))
        else
          some (.inl (s1, (wr ((Int.fdiv ((IntKind.wrap .u64 ((wr (s1 + s2))))) 2)))))
      else
        some (.inr s1)
  at_ := fun s gh => match s, gh with
    | (s1, s2), () => ⟨[(1, (V.fn g caps)), (4, (V.v (.int .i64 (0)))), (5, (V.v (.int .i64 (s1)))), (6, (V.v (.int .i64 (s2))))], [], 0⟩
noncomputable def F_sort_Search : (Int × ((Int → Option Bool)) × FuncId × (List V)) → Option (Int) := fun x => match x with
  | (a0, a1, g, caps) =>
    (loopC (L_sort_Search_1 a1 g caps).step (0, a0)).bind fun e => match e with
    | s5 =>
      some s5

noncomputable def L_slices_IndexFunc_L_HullRow_HullRow_1 (a0 : List THullRow) (a1 : (THullRow → Option Bool)) (g : FuncId) (caps : List V) : LoopD (Int) (Unit ⊕ Int) (Unit) where
  step := fun s => match s with
    | s1 =>
      bif (decide (s1 < ((a0).length : Int))) then
        (idx? (a0) (s1)).bind fun x4 =>
        (a1 (x4)).bind fun y5 =>
        bif y5 then
          some (.inr (.inr s1))
        else
          some (.inl (wr (s1 + 1)))
      else
        some (.inr (.inl ()))
  at_ := fun s gh => match s, gh with
    | s1, () => ⟨[(0, (V.sl (recs eTHullRow (a0)) (a0).length)), (1, (V.fn g caps)), (4, (V.v (.int .i64 (0)))), (7, (V.v (.int .i64 (((a0).length : Int))))), (8, (V.v (.int .i64 (s1))))], [], 0⟩
noncomputable def F_slices_IndexFunc_L_HullRow_HullRow : ((List THullRow) × ((THullRow → Option Bool)) × FuncId × (List V)) → Option (Int) := fun x => match x with
  | (a0, a1, g, caps) =>
    (loopC (L_slices_IndexFunc_L_HullRow_HullRow_1 a0 a1 g caps).step 0).bind fun e => match e with
    | (.inl ()) =>
      some (-1)
    | (.inr r6) =>
      some r6

noncomputable def F_hull_curveAt_1 : (THullRow × Int) → Option (Bool) := fun x => match x with
  | (a0, c0) =>
    some (decide (c0 ≤ a0.Draft))

noncomputable def F_hull_curveAt : ((List THullRow) × Int) → Option (Int) := fun x => match x with
  | (a0, a1) =>
    (slc? (a0) (1) (((a0).length : Int))).bind fun l1 =>
    (F_slices_IndexFunc_L_HullRow_HullRow (l1, (fun q => F_hull_curveAt_1 (q, a1)), 94, [(V.fptr [(V.v (.int .i64 (a1)))])])).bind fun y2 =>
    (idx? (a0) (y2)).bind fun x3 =>
    (idx? (a0) ((wr (y2 + 1)))).bind fun x4 =>
    (nz? ((wr (x4.Draft - x3.Draft)))).bind fun _ =>
    some (wr (x3.Volume + (wr (Int.tdiv (wr ((wr (x4.Volume - x3.Volume)) * (wr (a1 - x3.Draft)))) (wr (x4.Draft - x3.Draft))))))

noncomputable def L_hull_ship_volume_1 (a1 : Int) (a0 : Thull_ship) : LoopD (Int × Int) (Int) (Unit) where
  step := fun s => match s with
    | (s1, s2) =>
      bif (decide (s2 < ((a0.Hull.Sections).length : Int))) then
        (idx? (a0.Hull.Sections) (s2)).bind fun x5 =>
        (F_hull_curveAt (x5.Curve, a1)).bind fun y6 =>
        some (.inl ((wr (s1 + y6)), (wr (s2 + 1))))
      else
        some (.inr s1)
  at_ := fun s gh => match s, gh with
    | (s1, s2), () => ⟨[(1, (V.v (.int .i64 (a1)))), (4, (V.v (.int .i64 (0)))), (5, (V.v (.int .i64 (s1)))), (10, (V.sl (recs eTHullSection (a0.Hull.Sections)) (a0.Hull.Sections).length)), (11, (V.v (.int .i64 (((a0.Hull.Sections).length : Int))))), (12, (V.v (.int .i64 (s2))))], [], 0⟩
noncomputable def F_hull_ship_volume : (Thull_ship × Int) → Option (Int) := fun x => match x with
  | (a0, a1) =>
    (loopC (L_hull_ship_volume_1 a1 a0).step (0, 0)).bind fun e => match e with
    | s7 =>
      some s7

noncomputable def F_hull_ship_mean_1 : (Int × Thull_ship × Int) → Option (Bool) := fun x => match x with
  | (a0, c0, c1) =>
    (F_hull_ship_volume (c0, a0)).bind fun y1 =>
    some (decide (y1 ≥ c1))

noncomputable def F_hull_ship_mean : (Thull_ship × Int × Int) → Option (Int) := fun x => match x with
  | (a0, a1, a2) =>
    (F_numbers_Up ((wr ((wr (a0.mass_ + (wr (a1 * a0.Hull.Lot)))) * 1000)), a2)).bind fun y1 =>
    (F_sort_Search ((wr (a0.limit_ + 1)), (fun q => F_hull_ship_mean_1 (q, a0, y1)), 96, [(V.fptr [(V.v (.int .i64 (a0.Hull.Lot))), (V.sl (recs eTHullSection (a0.Hull.Sections)) (a0.Hull.Sections).length), (V.v (.int .i64 (a0.limit_))), (V.v (.int .i64 (a0.trim_))), (V.v (.int .i64 (a0.mass_))), (V.v (.int .i64 (a0.moment_))), (V.sl (recs eThull_hold (a0.storage_)) (a0.storage_).length)]), (V.fptr [(V.v (.int .i64 (y1)))])])).bind fun y2 =>
    some y2

noncomputable def F_hull_withoutSign : (Int) → Option (Int) := fun x => match x with
  | (a0) =>
    some (minmax true a0 (wr (0 - a0)))

noncomputable def F_cmp_isNaN_int : (Int) → Option (Bool) := fun x => match x with
  | (a0) =>
    some (a0 != a0)

noncomputable def F_cmp_Compare_int : (Int × Int) → Option (Int) := fun x => match x with
  | (a0, a1) =>
    (F_cmp_isNaN_int (a0)).bind fun y1 =>
    (F_cmp_isNaN_int (a1)).bind fun y2 =>
    bif y1 then
      bif y2 then
        some 0
      else
        some (-1)
    else
      bif y2 then
        some 1
      else
        bif (decide (a0 < a1)) then
          some (-1)
        else
          bif (decide (a0 > a1)) then
            some 1
          else
            some 0

noncomputable def F_hull_ship_float : (Thull_ship × (List Int) × TBounds) → Option (THullFloat × Int) := fun x => match x with
  | (a0, a1, a2) =>
    (F_hull_ship_loaded (a0, a1)).bind fun y1 =>
    (F_hull_ship_mean (a0, y1.1, a2.High)).bind fun y2 =>
    (F_hull_ship_mean (a0, y1.1, a2.Low)).bind fun y3 =>
    (F_hull_withoutSign (y1.2)).bind fun y4 =>
    (F_numbers_Up (y4, (wr (4 * a0.trim_)))).bind fun y5 =>
    bif (decide ((wr (y3 + y5)) > a0.limit_)) then
      some ((⟨(⟨0, 0⟩ : TBounds), (⟨0, 0⟩ : TBounds), 0⟩ : THullFloat), 8)
    else
      (F_cmp_Compare_int (y1.2, 0)).bind fun y6 =>
      some ((⟨(⟨y2, y3⟩ : TBounds), (⟨(wr (y2 + y5)), (wr (y3 + y5))⟩ : TBounds), y6⟩ : THullFloat), 0)

noncomputable def F_hull_Float : (THull × (List Int) × TBounds) → Option (THullFloat × Int) := fun x => match x with
  | (a0, a1, a2) =>
    (F_hull_launch (a0)).bind fun y1 =>
    bif (y1.2 != 0) then
      some ((⟨(⟨0, 0⟩ : TBounds), (⟨0, 0⟩ : TBounds), 0⟩ : THullFloat), y1.2)
    else
      (F_hull_ship_checkLoad (y1.1, a1)).bind fun y2 =>
      bif (y2 != 0) then
        some ((⟨(⟨0, 0⟩ : TBounds), (⟨0, 0⟩ : TBounds), 0⟩ : THullFloat), y2)
      else
        (F_hull_validDensity (a2)).bind fun y3 =>
        bif (!y3) then
          some ((⟨(⟨0, 0⟩ : TBounds), (⟨0, 0⟩ : TBounds), 0⟩ : THullFloat), 2)
        else
          (F_hull_ship_float (y1.1, a1, a2)).bind fun y4 =>
          some (y4.1, y4.2)

noncomputable def L_numbers_Every_Reach_1 (a1 : (TReach → Option Bool)) (a0 : List TReach) (g : FuncId) (caps : List V) : LoopD (Int) (Unit ⊕ Bool) (Unit) where
  step := fun s => match s with
    | s1 =>
      bif (decide (s1 < ((a0).length : Int))) then
        (idx? (a0) (s1)).bind fun x4 =>
        (a1 (x4)).bind fun y5 =>
        bif (!y5) then
          some (.inr (.inr false))
        else
          some (.inl (wr (s1 + 1)))
      else
        some (.inr (.inl ()))
  at_ := fun s gh => match s, gh with
    | s1, () => ⟨[(1, (V.fn g caps)), (4, (V.v (.bool (false)))), (7, (V.sl (recs eTReach (a0)) (a0).length)), (8, (V.v (.int .i64 (((a0).length : Int))))), (9, (V.v (.int .i64 (s1))))], [], 0⟩
noncomputable def F_numbers_Every_Reach : ((List TReach) × ((TReach → Option Bool)) × FuncId × (List V)) → Option (Bool) := fun x => match x with
  | (a0, a1, g, caps) =>
    (loopC (L_numbers_Every_Reach_1 a1 a0 g caps).step 0).bind fun e => match e with
    | (.inl ()) =>
      some true
    | (.inr r6) =>
      some r6

noncomputable def F_river_validCurve_1 : (TRateRow × TRateRow) → Option (Bool) := fun x => match x with
  | (a0, a1) =>
    bif (decide (a0.Flow < a1.Flow)) then
      some (decide (a0.Level ≤ a1.Level))
    else
      some false

noncomputable def L_numbers_Every_RateRow_1 (a1 : (TRateRow → Option Bool)) (a0 : List TRateRow) (g : FuncId) (caps : List V) : LoopD (Int) (Unit ⊕ Bool) (Unit) where
  step := fun s => match s with
    | s1 =>
      bif (decide (s1 < ((a0).length : Int))) then
        (idx? (a0) (s1)).bind fun x4 =>
        (a1 (x4)).bind fun y5 =>
        bif (!y5) then
          some (.inr (.inr false))
        else
          some (.inl (wr (s1 + 1)))
      else
        some (.inr (.inl ()))
  at_ := fun s gh => match s, gh with
    | s1, () => ⟨[(1, (V.fn g caps)), (4, (V.v (.bool (false)))), (7, (V.sl (recs eTRateRow (a0)) (a0).length)), (8, (V.v (.int .i64 (((a0).length : Int))))), (9, (V.v (.int .i64 (s1))))], [], 0⟩
noncomputable def F_numbers_Every_RateRow : ((List TRateRow) × ((TRateRow → Option Bool)) × FuncId × (List V)) → Option (Bool) := fun x => match x with
  | (a0, a1, g, caps) =>
    (loopC (L_numbers_Every_RateRow_1 a1 a0 g caps).step 0).bind fun e => match e with
    | (.inl ()) =>
      some true
    | (.inr r6) =>
      some r6

noncomputable def F_river_validCurve_2 : (TRateRow) → Option (Bool) := fun x => match x with
  | (a0) =>
    (F_numbers_Within (0, 10000000000, ([a0.Flow] : List Int))).bind fun y1 =>
    bif y1 then
      (F_numbers_Within (0, 10000, ([a0.Level] : List Int))).bind fun y2 =>
      some y2
    else
      some false

noncomputable def L_river_validCurve_1 (a0 : List TRateRow) : LoopD (Int) (Unit ⊕ Bool) (Unit) where
  step := fun s => match s with
    | s2 =>
      bif (decide (s2 < ((a0).length : Int))) then
        (idx? (a0) ((wr (s2 - 1)))).bind fun x6 =>
        (idx? (a0) (s2)).bind fun x7 =>
        (F_river_validCurve_1 (x6, x7)).bind fun y8 =>
        bif (!y8) then
          some (.inr (.inr false))
        else
          some (.inl (wr (s2 + 1)))
      else
        some (.inr (.inl ()))
  at_ := fun s gh => match s, gh with
    | s2, () => ⟨[(0, (V.sl (recs eTRateRow (a0)) (a0).length)), (2, (V.v (.bool (false)))), (3, (V.fn 129 [])), (4, (V.v (.int .i64 (s2))))], [], 0⟩
noncomputable def F_river_validCurve : ((List TRateRow)) → Option (Bool) := fun x => match x with
  | (a0) =>
    (F_numbers_Within (2, 30, ([((a0).length : Int)] : List Int))).bind fun y1 =>
    bif (!y1) then
      some false
    else
      (loopC (L_river_validCurve_1 a0).step 1).bind fun e => match e with
      | (.inl ()) =>
        (F_numbers_Every_RateRow (a0, (fun q => F_river_validCurve_2 (q)), 131, [])).bind fun y9 =>
        some y9
      | (.inr r10) =>
        some r10

noncomputable def F_river_validReach : (TReach) → Option (Bool) := fun x => match x with
  | (a0) =>
    (F_numbers_Within (1, 5000, ([a0.Length] : List Int))).bind fun y1 =>
    bif y1 then
      (F_numbers_Within (0, 200, ([a0.Delay] : List Int))).bind fun y2 =>
      bif y2 then
        (F_numbers_Within (0, 10000, ([a0.Weir, a0.Flood] : List Int))).bind fun y3 =>
        bif y3 then
          (F_numbers_Valid (a0.Base, 0, 10000000000)).bind fun y4 =>
          bif y4 then
            (F_numbers_Valid (a0.Bottom, 0, 10000)).bind fun y5 =>
            bif y5 then
              (F_river_validCurve (a0.Curve)).bind fun y6 =>
              some y6
            else
              some false
          else
            some false
        else
          some false
      else
        some false
    else
      some false

noncomputable def L_numbers_Every_Shoal_1 (a1 : (TShoal → Option Bool)) (a0 : List TShoal) (g : FuncId) (caps : List V) : LoopD (Int) (Unit ⊕ Bool) (Unit) where
  step := fun s => match s with
    | s1 =>
      bif (decide (s1 < ((a0).length : Int))) then
        (idx? (a0) (s1)).bind fun x4 =>
        (a1 (x4)).bind fun y5 =>
        bif (!y5) then
          some (.inr (.inr false))
        else
          some (.inl (wr (s1 + 1)))
      else
        some (.inr (.inl ()))
  at_ := fun s gh => match s, gh with
    | s1, () => ⟨[(1, (V.fn g caps)), (4, (V.v (.bool (false)))), (7, (V.sl (recs eTShoal (a0)) (a0).length)), (8, (V.v (.int .i64 (((a0).length : Int))))), (9, (V.v (.int .i64 (s1))))], [], 0⟩
noncomputable def F_numbers_Every_Shoal : ((List TShoal) × ((TShoal → Option Bool)) × FuncId × (List V)) → Option (Bool) := fun x => match x with
  | (a0, a1, g, caps) =>
    (loopC (L_numbers_Every_Shoal_1 a1 a0 g caps).step 0).bind fun e => match e with
    | (.inl ()) =>
      some true
    | (.inr r6) =>
      some r6

noncomputable def L_river_find_1 (a1 : Int) (a0 : TRiver) : LoopD (Int × Int) (Unit ⊕ (Triver_site × Bool)) (Unit) where
  step := fun s => match s with
    | (s1, s2) =>
      bif (decide (s2 < ((a0.Reaches).length : Int))) then
        (idx? (a0.Reaches) (s2)).bind fun x4 =>
        bif (decide (0 ≤ a1)) then
          bif (decide (a1 < (wr (s1 + x4.Length)))) then
            some (.inr (.inr ((⟨x4, s2, a1, a0.Shoals⟩ : Triver_site), true)))
          else
            some (.inl ((wr (s1 + x4.Length)), (wr (s2 + 1))))
        else
          some (.inl ((wr (s1 + x4.Length)), (wr (s2 + 1))))
      else
        some (.inr (.inl ()))
  at_ := fun s gh => match s, gh with
    | (s1, s2), () => ⟨[(1, (V.v (.int .i64 (a1)))), (2, (V.box 0 0)), (4, (V.box 1 0)), (5, (V.v (.bool (false)))), (6, (V.v (.int .i64 (s1)))), (10, (V.sl (recs eTReach (a0.Reaches)) (a0.Reaches).length)), (11, (V.v (.int .i64 (((a0.Reaches).length : Int))))), (12, (V.v (.int .i64 (s2))))], [(0, Bx.var [(V.sl (recs eTReach (a0.Reaches)) (a0.Reaches).length), (V.sl (recs eTShoal (a0.Shoals)) (a0.Shoals).length)] false), (1, Bx.var [(V.v (.int .i64 (0))), (V.v (.int .i64 (0))), (V.v (.int .i64 (0))), (V.v (.int .i64 (0))), (V.v (.slice none 0 0)), (V.v (.int .i64 (0))), (V.v (.int .i64 (0))), (V.v (.int .i64 (0))), (V.v (.int .i64 (0))), (V.v (.int .i64 (0))), (V.v (.int .i64 (0))), (V.v (.slice none 0 0))] false)], 2⟩
noncomputable def F_river_find : (TRiver × Int) → Option (Triver_site × Bool) := fun x => match x with
  | (a0, a1) =>
    (loopC (L_river_find_1 a1 a0).step (0, 0)).bind fun e => match e with
    | (.inl ()) =>
      some ((⟨(⟨0, 0, (⟨0, 0⟩ : TBounds), ([] : List TRateRow), 0, (⟨0, 0⟩ : TBounds), 0⟩ : TReach), 0, 0, ([] : List TShoal)⟩ : Triver_site), false)
    | (.inr r5) =>
      some r5

noncomputable def F_river_validShoal : (TRiver × TShoal) → Option (Bool) := fun x => match x with
  | (a0, a1) =>
    (F_river_find (a0, a1.Place)).bind fun y1 =>
    bif y1.2 then
      (F_numbers_Within ((-400), 400, ([a1.Sounded] : List Int))).bind fun y2 =>
      bif y2 then
        (F_numbers_Valid (a1.Bed, 0, 10000)).bind fun y3 =>
        bif y3 then
          (F_numbers_Valid (a1.Grow, (-500), 500)).bind fun y4 =>
          some y4
        else
          some false
      else
        some false
    else
      some false

noncomputable def F_river_Check_1 : (TShoal × TRiver) → Option (Bool) := fun x => match x with
  | (a0, c0) =>
    (F_river_validShoal (c0, a0)).bind fun y1 =>
    some y1

noncomputable def F_river_Check : (TRiver) → Option (Int) := fun x => match x with
  | (a0) =>
    (F_numbers_Within (1, 20, ([((a0.Reaches).length : Int)] : List Int))).bind fun y1 =>
    bif (!y1) then
      some 2
    else
      (F_numbers_Every_Reach (a0.Reaches, (fun q => F_river_validReach (q)), 115, [])).bind fun y2 =>
      bif (!y2) then
        some 2
      else
        bif (decide (((a0.Shoals).length : Int) > 40)) then
          some 2
        else
          (F_numbers_Every_Shoal (a0.Shoals, (fun q => F_river_Check_1 (q, a0)), 117, [(V.fptr [(V.sl (recs eTReach (a0.Reaches)) (a0.Reaches).length), (V.sl (recs eTShoal (a0.Shoals)) (a0.Shoals).length)])])).bind fun y3 =>
          bif (!y3) then
            some 2
          else
            some 0

noncomputable def L_numbers_Every_L_Bounds_1 (a1 : ((List TBounds) → Option Bool)) (a0 : List (List TBounds)) (g : FuncId) (caps : List V) : LoopD (Int) (Unit ⊕ Bool) (Unit) where
  step := fun s => match s with
    | s1 =>
      bif (decide (s1 < ((a0).length : Int))) then
        (idx? (a0) (s1)).bind fun x4 =>
        (a1 (x4)).bind fun y5 =>
        bif (!y5) then
          some (.inr (.inr false))
        else
          some (.inl (wr (s1 + 1)))
      else
        some (.inr (.inl ()))
  at_ := fun s gh => match s, gh with
    | s1, () => ⟨[(1, (V.fn g caps)), (4, (V.v (.bool (false)))), (7, (V.sl (recs (eS eTBounds) (a0)) (a0).length)), (8, (V.v (.int .i64 (((a0).length : Int))))), (9, (V.v (.int .i64 (s1))))], [], 0⟩
noncomputable def F_numbers_Every_L_Bounds : ((List (List TBounds)) × (((List TBounds) → Option Bool)) × FuncId × (List V)) → Option (Bool) := fun x => match x with
  | (a0, a1, g, caps) =>
    (loopC (L_numbers_Every_L_Bounds_1 a1 a0 g caps).step 0).bind fun e => match e with
    | (.inl ()) =>
      some true
    | (.inr r6) =>
      some r6

noncomputable def F_river_checkForecast_1 : ((List TBounds) × Int) → Option (Bool) := fun x => match x with
  | (a0, c0) =>
    some (((a0).length : Int) == c0)

noncomputable def F_river_checkForecast_2 : (TBounds) → Option (Bool) := fun x => match x with
  | (a0) =>
    (F_numbers_Valid (a0, 0, 10000000000)).bind fun y1 =>
    some y1

noncomputable def L_numbers_Every_Bounds_1 (a1 : (TBounds → Option Bool)) (a0 : List TBounds) (g : FuncId) (caps : List V) : LoopD (Int) (Unit ⊕ Bool) (Unit) where
  step := fun s => match s with
    | s1 =>
      bif (decide (s1 < ((a0).length : Int))) then
        (idx? (a0) (s1)).bind fun x4 =>
        (a1 (x4)).bind fun y5 =>
        bif (!y5) then
          some (.inr (.inr false))
        else
          some (.inl (wr (s1 + 1)))
      else
        some (.inr (.inl ()))
  at_ := fun s gh => match s, gh with
    | s1, () => ⟨[(1, (V.fn g caps)), (4, (V.v (.bool (false)))), (7, (V.sl (recs eTBounds (a0)) (a0).length)), (8, (V.v (.int .i64 (((a0).length : Int))))), (9, (V.v (.int .i64 (s1))))], [], 0⟩
noncomputable def F_numbers_Every_Bounds : ((List TBounds) × ((TBounds → Option Bool)) × FuncId × (List V)) → Option (Bool) := fun x => match x with
  | (a0, a1, g, caps) =>
    (loopC (L_numbers_Every_Bounds_1 a1 a0 g caps).step 0).bind fun e => match e with
    | (.inl ()) =>
      some true
    | (.inr r6) =>
      some r6

noncomputable def F_river_checkForecast_3 : ((List TBounds) × ((TBounds → Option Bool)) × FuncId × (List V)) → Option (Bool) := fun x => match x with
  | (a0, c0, g, caps) =>
    (F_numbers_Every_Bounds (a0, c0, g, caps)).bind fun y1 =>
    some y1

noncomputable def F_river_checkForecast : (TRiver × (List (List TBounds))) → Option (Int) := fun x => match x with
  | (a0, a1) =>
    bif (((a1).length : Int) != ((a0.Reaches).length : Int)) then
      some 4
    else
      (idx? (a1) (0)).bind fun x1 =>
      bif (((x1).length : Int) == 0) then
        some 4
      else
        (F_numbers_Every_L_Bounds (a1, (fun q => F_river_checkForecast_1 (q, ((x1).length : Int))), 120, [(V.fptr [(V.v (.int .i64 (((x1).length : Int))))])])).bind fun y2 =>
        bif (!y2) then
          some 4
        else
          bif (decide (((x1).length : Int) > 400)) then
            some 5
          else
            (F_numbers_Every_L_Bounds (a1, (fun q => F_river_checkForecast_3 (q, (fun q => F_river_checkForecast_2 (q)), 121, [])), 122, [(V.fptr [(V.fn 121 [])])])).bind fun y3 =>
            bif (!y3) then
              some 2
            else
              some 0

noncomputable def L_numbers_Sum_1 (a0 : List TBounds) : LoopD (Int × Int × Int) ((Int × Int)) (Unit) where
  step := fun s => match s with
    | (s1, s2, s3) =>
      bif (decide (s1 < ((a0).length : Int))) then
        (idx? (a0) (s1)).bind fun x5 =>
        some (.inl ((wr (s1 + 1)), (wr (s2 + x5.Low)), (wr (s3 + x5.High))))
      else
        some (.inr (s2, s3))
  at_ := fun s gh => match s, gh with
    | (s1, s2, s3), () => ⟨[(2, (V.box 0 0)), (3, (V.box 2 0)), (7, (V.sl (recs eTBounds (a0)) (a0).length)), (8, (V.v (.int .i64 (((a0).length : Int))))), (9, (V.v (.int .i64 (s1))))], [(0, Bx.var [(V.v (.int .i64 (0))), (V.v (.int .i64 (0)))] false), (2, Bx.var [(V.v (.int .i64 (s2))), (V.v (.int .i64 (s3)))] false)], 3⟩
noncomputable def F_numbers_Sum : ((List TBounds)) → Option (TBounds) := fun x => match x with
  | (a0) =>
    (loopC (L_numbers_Sum_1 a0).step (0, 0, 0)).bind fun e => match e with
    | (s6, s7) =>
      some (⟨s6, s7⟩ : TBounds)

noncomputable def F_river_stream_inflow : (Triver_stream × Int × Int) → Option (TBounds) := fun x => match x with
  | (a0, a1, a2) =>
    bif (a1 == 0) then
      some (⟨0, 0⟩ : TBounds)
    else
      (idx? (a0.River.Reaches) ((wr (a1 - 1)))).bind fun x1 =>
      bif (decide (a2 < x1.Delay)) then
        some x1.Base
      else
        (idx? (a0.flows_) ((wr (a1 - 1)))).bind fun x2 =>
        (idx? (x2) ((wr (a2 - x1.Delay)))).bind fun x3 =>
        some x3

noncomputable def L_river_run_1 (a1 : List (List TBounds)) (s3 : Int) (x23 : List TBounds) (a0 : TRiver) (s4 : List (List TBounds)) : LoopD (Int × (List TBounds)) (((List TBounds))) (Nat) where
  step := fun s => match s with
    | (s25, s26) =>
      bif (decide (s25 < ((x23).length : Int))) then
        (idx? (x23) (s25)).bind fun x33 =>
        (F_river_stream_inflow ((⟨a0, s4⟩ : Triver_stream), s3, s25)).bind fun y34 =>
        (F_numbers_Sum (([x33, y34] : List TBounds))).bind fun y35 =>
        (idx? (s26) (s25)).bind fun x36 =>
        (set? (s26) (s25) (y35)).bind fun l38 =>
        some (.inl ((wr (s25 + 1)), l38))
      else
        some (.inr s26)
  at_ := fun s gh => match s, gh with
    | (s25, s26), p17 => ⟨[(4, (V.box 1 0)), (5, (V.v (.int .i64 (0)))), (8, (V.box 16 0)), (9, (V.v (.int .i64 (s3)))), (10, (V.sl (recs eTBounds (x23)) (x23).length)), (11, (V.osl 26 (s26).length)), (28, (V.sl (recs (eS eTBounds) (a1)) (a1).length)), (29, (V.v (.int .i64 (((a1).length : Int))))), (30, (V.v (.int .i64 (s3)))), (39, (V.v (.int .i64 (((x23).length : Int))))), (40, (V.v (.int .i64 (s25))))], [(1, Bx.var [(V.v (.slice none 0 0)), (V.v (.slice none 0 0)), (V.v (.slice none 0 0))] false), (16, Bx.var [(V.sl (recs eTReach (a0.Reaches)) (a0.Reaches).length), (V.sl (recs eTShoal (a0.Shoals)) (a0.Shoals).length), (V.osl 17 (s4).length)] false), (17, Bx.row 68 1 (recs (eS eTBounds) (s4)) p17), (26, Bx.row 27 2 (recs eTBounds (s26)) 0)], 27⟩
noncomputable def L_river_run_2 (a1 : List (List TBounds)) (a0 : TRiver) : LoopD (Int × (List (List TBounds))) (((List (List TBounds)))) (Nat) where
  step := fun s => match s with
    | (s3, s4) =>
      bif (decide (s3 < ((a1).length : Int))) then
        (idx? (a1) (s3)).bind fun x23 =>
        (mk? ((⟨0, 0⟩ : TBounds) : TBounds) (((x23).length : Int)) 16).bind fun l24 =>
        (loopC (L_river_run_1 a1 s3 x23 a0 s4).step (0, l24)).bind fun e => match e with
        | s39 =>
          (app? (s4) (([s39] : List (List TBounds))) 24).bind fun l40 =>
          some (.inl ((wr (s3 + 1)), l40))
      else
        some (.inr s4)
  at_ := fun s gh => match s, gh with
    | (s3, s4), p17 => ⟨[(4, (V.box 1 0)), (5, (V.v (.int .i64 (0)))), (8, (V.box 16 0)), (28, (V.sl (recs (eS eTBounds) (a1)) (a1).length)), (29, (V.v (.int .i64 (((a1).length : Int))))), (30, (V.v (.int .i64 (s3))))], [(1, Bx.var [(V.v (.slice none 0 0)), (V.v (.slice none 0 0)), (V.v (.slice none 0 0))] false), (16, Bx.var [(V.sl (recs eTReach (a0.Reaches)) (a0.Reaches).length), (V.sl (recs eTShoal (a0.Shoals)) (a0.Shoals).length), (V.osl 17 (s4).length)] false), (17, Bx.row 68 1 (recs (eS eTBounds) (s4)) p17)], 18⟩
noncomputable def F_river_run : (TRiver × (List (List TBounds))) → Option (Triver_stream × Int) := fun x => match x with
  | (a0, a1) =>
    (F_river_Check (a0)).bind fun y1 =>
    bif (y1 != 0) then
      some ((⟨(⟨([] : List TReach), ([] : List TShoal)⟩ : TRiver), ([] : List (List TBounds))⟩ : Triver_stream), y1)
    else
      (F_river_checkForecast (a0, a1)).bind fun y2 =>
      bif (y2 != 0) then
        some ((⟨(⟨([] : List TReach), ([] : List TShoal)⟩ : TRiver), ([] : List (List TBounds))⟩ : Triver_stream), y2)
      else
        (loopC (L_river_run_2 a1 a0).step (0, ([] : List (List TBounds)))).bind fun e => match e with
        | s41 =>
          some ((⟨a0, s41⟩ : Triver_stream), 0)

noncomputable def F_river_stream_hours : (Triver_stream) → Option (Int) := fun x => match x with
  | (a0) =>
    (idx? (a0.flows_) (0)).bind fun x1 =>
    some ((x1).length : Int)

noncomputable def L_river_stream_checkWay_1 (a1 : List TPass) (a0 : Triver_stream) : LoopD (Int) (Unit ⊕ Int) (Unit) where
  step := fun s => match s with
    | s1 =>
      bif (decide (s1 < ((a1).length : Int))) then
        (idx? (a1) (s1)).bind fun x6 =>
        (F_river_find (a0.River, x6.Place)).bind fun y7 =>
        bif (!y7.2) then
          some (.inr (.inr 7))
        else
          (F_river_stream_hours (a0)).bind fun y8 =>
          (F_numbers_Valid (x6.Hours, 0, (wr (y8 - 1)))).bind fun y9 =>
          bif (!y9) then
            some (.inr (.inr 3))
          else
            some (.inl (wr (s1 + 1)))
      else
        some (.inr (.inl ()))
  at_ := fun s gh => match s, gh with
    | s1, () => ⟨[(2, (V.box 0 0)), (4, (V.v (.int .i64 (0)))), (15, (V.sl (recs eTPass (a1)) (a1).length)), (16, (V.v (.int .i64 (((a1).length : Int))))), (17, (V.v (.int .i64 (s1))))], [(0, Bx.var [(V.sl (recs eTReach (a0.River.Reaches)) (a0.River.Reaches).length), (V.sl (recs eTShoal (a0.River.Shoals)) (a0.River.Shoals).length), (V.sl (recs (eS eTBounds) (a0.flows_)) (a0.flows_).length)] false)], 1⟩
noncomputable def F_river_stream_checkWay : (Triver_stream × (List TPass)) → Option (Int) := fun x => match x with
  | (a0, a1) =>
    bif (((a1).length : Int) == 0) then
      some 4
    else
      bif (decide (((a1).length : Int) > 60)) then
        some 5
      else
        (loopC (L_river_stream_checkWay_1 a1 a0).step 0).bind fun e => match e with
        | (.inl ()) =>
          some 0
        | (.inr r10) =>
          some r10

noncomputable def L_slices_IndexFunc_L_RateRow_RateRow_1 (a0 : List TRateRow) (a1 : (TRateRow → Option Bool)) (g : FuncId) (caps : List V) : LoopD (Int) (Unit ⊕ Int) (Unit) where
  step := fun s => match s with
    | s1 =>
      bif (decide (s1 < ((a0).length : Int))) then
        (idx? (a0) (s1)).bind fun x4 =>
        (a1 (x4)).bind fun y5 =>
        bif y5 then
          some (.inr (.inr s1))
        else
          some (.inl (wr (s1 + 1)))
      else
        some (.inr (.inl ()))
  at_ := fun s gh => match s, gh with
    | s1, () => ⟨[(0, (V.sl (recs eTRateRow (a0)) (a0).length)), (1, (V.fn g caps)), (4, (V.v (.int .i64 (0)))), (7, (V.v (.int .i64 (((a0).length : Int))))), (8, (V.v (.int .i64 (s1))))], [], 0⟩
noncomputable def F_slices_IndexFunc_L_RateRow_RateRow : ((List TRateRow) × ((TRateRow → Option Bool)) × FuncId × (List V)) → Option (Int) := fun x => match x with
  | (a0, a1, g, caps) =>
    (loopC (L_slices_IndexFunc_L_RateRow_RateRow_1 a0 a1 g caps).step 0).bind fun e => match e with
    | (.inl ()) =>
      some (-1)
    | (.inr r6) =>
      some r6

noncomputable def F_river_curveAt_1 : (TRateRow × Int) → Option (Bool) := fun x => match x with
  | (a0, c0) =>
    some (decide (c0 ≤ a0.Flow))

noncomputable def F_river_curveAt : ((List TRateRow) × Int × ((Int × Int → Option Int)) × FuncId × (List V)) → Option (Int) := fun x => match x with
  | (a0, a1, a2, g, caps) =>
    (F_slices_IndexFunc_L_RateRow_RateRow (a0, (fun q => F_river_curveAt_1 (q, a1)), 136, [(V.fptr [(V.v (.int .i64 (a1)))])])).bind fun y1 =>
    bif (decide (y1 < 0)) then
      (idx? (a0) ((wr (((a0).length : Int) - 1)))).bind fun x2 =>
      some x2.Level
    else
      bif (y1 == 0) then
        (idx? (a0) (0)).bind fun x3 =>
        some x3.Level
      else
        (idx? (a0) ((wr (y1 - 1)))).bind fun x4 =>
        (idx? (a0) (y1)).bind fun x5 =>
        (a2 ((wr ((wr (x5.Level - x4.Level)) * (wr (a1 - x4.Flow)))), (wr (x5.Flow - x4.Flow)))).bind fun y6 =>
        some (wr (x4.Level + y6))

noncomputable def F_river_levelAt : (TReach × TBounds) → Option (TBounds) := fun x => match x with
  | (a0, a1) =>
    (F_river_curveAt (a0.Curve, a1.Low, (fun q => F_numbers_Down (q.1, q.2)), 97, [])).bind fun y1 =>
    (F_river_curveAt (a0.Curve, a1.High, (fun q => F_numbers_Up (q.1, q.2)), 68, [])).bind fun y2 =>
    some (⟨(minmax true y1 a0.Weir), (minmax true y2 a0.Weir)⟩ : TBounds)

noncomputable def F_river_stream_level : (Triver_stream × Int × Int) → Option (TBounds) := fun x => match x with
  | (a0, a1, a2) =>
    (idx? (a0.River.Reaches) (a1)).bind fun x1 =>
    (idx? (a0.flows_) (a1)).bind fun x2 =>
    (idx? (x2) (a2)).bind fun x3 =>
    (F_river_levelAt (x1, x3)).bind fun y4 =>
    some y4

noncomputable def F_river_shoalAt : (TShoal × Int) → Option (TBounds) := fun x => match x with
  | (a0, a1) =>
    (F_numbers_Down ((wr (a0.Grow.Low * (minmax true (wr (a1 - a0.Sounded)) 0))), 24)).bind fun y1 =>
    (F_numbers_Up ((wr (a0.Grow.High * (minmax true (wr (a1 - a0.Sounded)) 0))), 24)).bind fun y2 =>
    some (⟨(wr (a0.Bed.Low + y1)), (wr (a0.Bed.High + y2))⟩ : TBounds)

noncomputable def L_river_site_bed_1 (a0 : Triver_site) (a1 : Int) : LoopD (Int × Int × Int) ((Int × Int)) (Unit) where
  step := fun s => match s with
    | (s1, s2, s3) =>
      bif (decide (s1 < ((a0.shoals_).length : Int))) then
        (idx? (a0.shoals_) (s1)).bind fun x6 =>
        bif (x6.Place == a0.place_) then
          (F_river_shoalAt (x6, a1)).bind fun y7 =>
          some (.inl ((wr (s1 + 1)), (minmax true s2 y7.Low), (minmax true s3 y7.High)))
        else
          some (.inl ((wr (s1 + 1)), s2, s3))
      else
        some (.inr (s2, s3))
  at_ := fun s gh => match s, gh with
    | (s1, s2, s3), () => ⟨[(0, (V.yld 12)), (1, (V.box 7 0)), (2, (V.box 8 0)), (13, (V.sl (recs eTShoal (a0.shoals_)) (a0.shoals_).length)), (14, (V.v (.int .i64 (((a0.shoals_).length : Int))))), (15, (V.v (.int .i64 (s1))))], [(1, Bx.var [(V.v (.int .i64 (0))), (V.v (.int .i64 (0)))] false), (3, Bx.var [(V.v (.int .i64 (s2))), (V.v (.int .i64 (s3)))] false), (7, Bx.var [(V.v (.int .i64 (a0.Reach.Length))), (V.v (.int .i64 (a0.Reach.Delay))), (V.v (.int .i64 (a0.Reach.Base.Low))), (V.v (.int .i64 (a0.Reach.Base.High))), (V.sl (recs eTRateRow (a0.Reach.Curve)) (a0.Reach.Curve).length), (V.v (.int .i64 (a0.Reach.Weir))), (V.v (.int .i64 (a0.Reach.Bottom.Low))), (V.v (.int .i64 (a0.Reach.Bottom.High))), (V.v (.int .i64 (a0.Reach.Flood))), (V.v (.int .i64 (a0.number_))), (V.v (.int .i64 (a0.place_))), (V.sl (recs eTShoal (a0.shoals_)) (a0.shoals_).length)] false), (8, Bx.var [(V.v (.int .i64 (a1)))] false)], 14⟩
noncomputable def F_river_site_bed : (Triver_site × Int) → Option (TBounds) := fun x => match x with
  | (a0, a1) =>
    (loopC (L_river_site_bed_1 a0 a1).step (0, (minmax true 0 a0.Reach.Bottom.Low), (minmax true 0 a0.Reach.Bottom.High))).bind fun e => match e with
    | (s8, s9) =>
      some (⟨s8, s9⟩ : TBounds)

noncomputable def F_river_stream_depth : (Triver_stream × Triver_site × Int) → Option (TBounds) := fun x => match x with
  | (a0, a1, a2) =>
    (F_river_stream_level (a0, a1.number_, a2)).bind fun y1 =>
    (F_river_site_bed (a1, a2)).bind fun y2 =>
    some (⟨(minmax true (wr (y1.Low - y2.High)) 0), (minmax true (wr (y1.High - y2.Low)) 0)⟩ : TBounds)

noncomputable def L_river_stream_passDepth_1 (a1 : TPass) (a0 : Triver_stream) (y1 : Triver_site × Bool) : LoopD (Int × Int × Int × Int) ((Int × Int × Int)) (Unit) where
  step := fun s => match s with
    | (s3, s4, s5, s6) =>
      bif (decide (s4 < (wr ((wr (a1.Hours.High - a1.Hours.Low)) + 1)))) then
        (F_river_stream_depth (a0, y1.1, (wr (a1.Hours.Low + s4)))).bind fun y8 =>
        bif (decide (y8.Low < s5)) then
          some (.inl ((wr (a1.Hours.Low + s4)), (wr (s4 + 1)), y8.Low, (minmax true s6 y8.High)))
        else
          some (.inl (s3, (wr (s4 + 1)), s5, (minmax true s6 y8.High)))
      else
        some (.inr (s3, s5, s6))
  at_ := fun s gh => match s, gh with
    | (s3, s4, s5, s6), () => ⟨[(2, (V.box 0 0)), (3, (V.box 1 0)), (4, (V.box 2 0)), (5, (V.v (.int .i64 (s3)))), (6, (V.box 12 0)), (34, (V.v (.int .i64 ((wr ((wr (a1.Hours.High - a1.Hours.Low)) + 1)))))), (35, (V.v (.int .i64 (s4))))], [(0, Bx.var [(V.sl (recs eTReach (a0.River.Reaches)) (a0.River.Reaches).length), (V.sl (recs eTShoal (a0.River.Shoals)) (a0.River.Shoals).length), (V.sl (recs (eS eTBounds) (a0.flows_)) (a0.flows_).length)] false), (1, Bx.var [(V.v (.int .i64 (a1.Place))), (V.v (.int .i64 (a1.Hours.Low))), (V.v (.int .i64 (a1.Hours.High)))] false), (2, Bx.var [(V.v (.int .i64 (s5))), (V.v (.int .i64 (s6)))] false), (12, Bx.var [(V.v (.int .i64 (y1.1.Reach.Length))), (V.v (.int .i64 (y1.1.Reach.Delay))), (V.v (.int .i64 (y1.1.Reach.Base.Low))), (V.v (.int .i64 (y1.1.Reach.Base.High))), (V.sl (recs eTRateRow (y1.1.Reach.Curve)) (y1.1.Reach.Curve).length), (V.v (.int .i64 (y1.1.Reach.Weir))), (V.v (.int .i64 (y1.1.Reach.Bottom.Low))), (V.v (.int .i64 (y1.1.Reach.Bottom.High))), (V.v (.int .i64 (y1.1.Reach.Flood))), (V.v (.int .i64 (y1.1.number_))), (V.v (.int .i64 (y1.1.place_))), (V.sl (recs eTShoal (y1.1.shoals_)) (y1.1.shoals_).length)] false)], 13⟩
noncomputable def F_river_stream_passDepth : (Triver_stream × TPass) → Option (TBounds × Int) := fun x => match x with
  | (a0, a1) =>
    (F_river_find (a0.River, a1.Place)).bind fun y1 =>
    (F_river_stream_depth (a0, y1.1, a1.Hours.Low)).bind fun y2 =>
    (loopC (L_river_stream_passDepth_1 a1 a0 y1).step (a1.Hours.Low, 0, y2.Low, y2.High)).bind fun e => match e with
    | (s9, s10, s11) =>
      some ((⟨s10, s11⟩ : TBounds), s9)

noncomputable def L_river_Shallowest_1 (y1 : Triver_stream × Int) (a2 : List TPass) : LoopD (Int × Int × Int × Int × Int) ((Int × Int × Int × Int)) (Unit) where
  step := fun s => match s with
    | (s3, s4, s5, s6, s7) =>
      bif (decide (s4 < ((a2).length : Int))) then
        (idx? (a2) (s4)).bind fun x10 =>
        (F_river_stream_passDepth (y1.1, x10)).bind fun y11 =>
        bif (decide (y11.1.Low < s5)) then
          some (.inl (y11.2, (wr (s4 + 1)), y11.1.Low, (minmax false s6 y11.1.High), s4))
        else
          some (.inl (s3, (wr (s4 + 1)), s5, (minmax false s6 y11.1.High), s7))
      else
        some (.inr (s7, s3, s5, s6))
  at_ := fun s gh => match s, gh with
    | (s3, s4, s5, s6, s7), () => ⟨[(6, (V.box 1 0)), (7, (V.v (.int .i64 (s7)))), (8, (V.v (.int .i64 (s3)))), (9, (V.v (.int .i64 (y1.2)))), (10, (V.box 11 0)), (34, (V.sl (recs eTPass (a2)) (a2).length)), (35, (V.v (.int .i64 (((a2).length : Int))))), (36, (V.v (.int .i64 (s4))))], [(1, Bx.var [(V.v (.int .i64 (s5))), (V.v (.int .i64 (s6)))] false), (11, Bx.var [(V.sl (recs eTReach (y1.1.River.Reaches)) (y1.1.River.Reaches).length), (V.sl (recs eTShoal (y1.1.River.Shoals)) (y1.1.River.Shoals).length), (V.sl (recs (eS eTBounds) (y1.1.flows_)) (y1.1.flows_).length)] false)], 12⟩
noncomputable def F_river_Shallowest : (TRiver × (List (List TBounds)) × (List TPass)) → Option (TBounds × Int × Int × Int) := fun x => match x with
  | (a0, a1, a2) =>
    (F_river_run (a0, a1)).bind fun y1 =>
    bif (y1.2 != 0) then
      some ((⟨0, 0⟩ : TBounds), 0, 0, y1.2)
    else
      (F_river_stream_checkWay (y1.1, a2)).bind fun y2 =>
      bif (y2 != 0) then
        some ((⟨0, 0⟩ : TBounds), 0, 0, y2)
      else
        (loopC (L_river_Shallowest_1 y1 a2).step (0, 0, 9223372036854775807, 9223372036854775807, 0)).bind fun e => match e with
        | (s12, s13, s14, s15) =>
          some ((⟨s14, s15⟩ : TBounds), s12, s13, 0)

noncomputable def F_hull_sound : (TPassage) → Option (Thull_leastDepth × Int) := fun x => match x with
  | (a0) =>
    (F_numbers_Within (0, 500, ([a0.Keel] : List Int))).bind fun y1 =>
    bif (!y1) then
      some ((⟨(⟨0, 0⟩ : TBounds), 0, 0⟩ : Thull_leastDepth), 3)
    else
      (F_river_Shallowest (a0.River, a0.Sides, a0.Way)).bind fun y2 =>
      some ((⟨y2.1, y2.2.1, y2.2.2.1⟩ : Thull_leastDepth), y2.2.2.2)

noncomputable def F_hull_leastDepth_surely : (Thull_leastDepth × THullFloat × Int) → Option (Bool) := fun x => match x with
  | (a0, a1, a2) =>
    some (decide ((wr (a1.Deep.High + a2)) ≤ a0.Bounds.Low))

noncomputable def F_hull_leastDepth_possibly : (Thull_leastDepth × THullFloat × Int) → Option (Bool) := fun x => match x with
  | (a0, a1, a2) =>
    some (decide ((wr (a1.Deep.Low + a2)) ≤ a0.Bounds.High))

noncomputable def F_hull_Safe : (THull × (List Int) × TBounds × TPassage) → Option (Bool × Bool × Int × Int × Int) := fun x => match x with
  | (a0, a1, a2, a3) =>
    (F_hull_Float (a0, a1, a2)).bind fun y1 =>
    bif (y1.2 != 0) then
      some (false, false, 0, 0, y1.2)
    else
      (F_hull_sound (a3)).bind fun y2 =>
      bif (y2.2 != 0) then
        some (false, false, 0, 0, y2.2)
      else
        (F_hull_leastDepth_surely (y2.1, y1.1, a3.Keel)).bind fun y3 =>
        (F_hull_leastDepth_possibly (y2.1, y1.1, a3.Keel)).bind fun y4 =>
        some (y3, y4, y2.1.pass_, y2.1.hour_, 0)

noncomputable def L_thalweglaw02_own_1 (a0 : THull) : LoopD (Int × (List THullSection)) (((List THullSection))) (Unit) where
  step := fun s => match s with
    | (s1, s2) =>
      bif (decide (s1 < ((a0.Sections).length : Int))) then
        (idx? (a0.Sections) (s1)).bind fun x7 =>
        (app? (([] : List THullRow)) (x7.Curve) 16).bind fun l8 =>
        (app? (([] : List THullHold)) (x7.Holds) 16).bind fun l9 =>
        (app? (s2) (([(⟨x7.Length, x7.Light, x7.Trim, l8, l9⟩ : THullSection)] : List THullSection)) 72).bind fun l10 =>
        some (.inl ((wr (s1 + 1)), l10))
      else
        some (.inr s2)
  at_ := fun s gh => match s, gh with
    | (s1, s2), () => ⟨[(1, (V.box 0 0)), (2, (V.box 1 0)), (3, (V.box 5 0)), (4, (V.v (.int .i64 (s1))))], [(0, Bx.var [(V.v (.int .i64 (a0.Lot))), (V.sl (recs eTHullSection (a0.Sections)) (a0.Sections).length)] false), (1, Bx.var [(V.v (.int .i64 (0))), (V.v (.slice none 0 0))] false), (5, Bx.var [(V.v (.int .i64 (a0.Lot))), (V.osl 6 (s2).length)] false), (6, Bx.row 64 5 (recs eTHullSection (s2)) 0)], 7⟩
noncomputable def F_thalweglaw02_own : (THull) → Option (THull) := fun x => match x with
  | (a0) =>
    (loopC (L_thalweglaw02_own_1 a0).step (0, ([] : List THullSection))).bind fun e => match e with
    | s11 =>
      some (⟨a0.Lot, s11⟩ : THull)

noncomputable def F_thalweglaw02_numbers : ((List Int)) → Option (List Int) := fun x => match x with
  | (a0) =>
    (app? (([] : List Int)) (a0) 8).bind fun l1 =>
    some l1

noncomputable def F_slices_Clone_L_Pass_Pass : (List TPass) → Option (List TPass) := fun l => (app? ([] : List TPass) l 24).bind fun r => some r


noncomputable def L_hull_delay_1 (a1 : Int) (y1 : List TPass) : LoopD (Int × (List TPass)) (((List TPass))) (Unit) where
  step := fun s => match s with
    | (s2, s3) =>
      bif (decide (s2 < ((y1).length : Int))) then
        (idx? (s3) (s2)).bind fun x14 =>
        (idx? (s3) (s2)).bind fun x16 =>
        (set? (s3) (s2) ((⟨x16.Place, (⟨(wr (x14.Hours.Low + a1)), x16.Hours.High⟩ : TBounds)⟩ : TPass))).bind fun l18 =>
        (idx? (l18) (s2)).bind fun x19 =>
        (idx? (l18) (s2)).bind fun x21 =>
        (set? (l18) (s2) ((⟨x21.Place, (⟨x21.Hours.Low, (wr (x19.Hours.High + a1))⟩ : TBounds)⟩ : TPass))).bind fun l23 =>
        some (.inl ((wr (s2 + 1)), l23))
      else
        some (.inr s3)
  at_ := fun s gh => match s, gh with
    | (s2, s3), () => ⟨[(1, (V.v (.int .i64 (a1)))), (4, (V.v (.slice none 0 0))), (5, (V.osl 2 (s3).length)), (10, (V.v (.int .i64 (((y1).length : Int))))), (11, (V.v (.int .i64 (s2))))], [(2, Bx.row 50 3 (recs eTPass (s3)) 0)], 3⟩
noncomputable def F_hull_delay : ((List TPass) × Int) → Option (List TPass) := fun x => match x with
  | (a0, a1) =>
    (F_slices_Clone_L_Pass_Pass (a0)).bind fun y1 =>
    (loopC (L_hull_delay_1 a1 y1).step (0, y1)).bind fun e => match e with
    | s24 =>
      some s24

noncomputable def L_hull_longestDelay_1 (x1 : List TBounds) (a0 : TPassage) : LoopD (Int × Int) (Int) (Unit) where
  step := fun s => match s with
    | (s2, s3) =>
      bif (decide (s3 < ((a0.Way).length : Int))) then
        (idx? (a0.Way) (s3)).bind fun x5 =>
        some (.inl ((minmax false s2 (wr ((wr (((x1).length : Int) - 1)) - x5.Hours.High))), (wr (s3 + 1))))
      else
        some (.inr s2)
  at_ := fun s gh => match s, gh with
    | (s2, s3), () => ⟨[(2, (V.v (.int .i64 (0)))), (3, (V.v (.int .i64 ((wr (((x1).length : Int) - 1)))))), (4, (V.v (.int .i64 (s2)))), (15, (V.sl (recs eTPass (a0.Way)) (a0.Way).length)), (16, (V.v (.int .i64 (((a0.Way).length : Int))))), (17, (V.v (.int .i64 (s3))))], [], 0⟩
noncomputable def F_hull_longestDelay : (TPassage) → Option (Int) := fun x => match x with
  | (a0) =>
    (idx? (a0.Sides) (0)).bind fun x1 =>
    (loopC (L_hull_longestDelay_1 x1 a0).step ((wr (((x1).length : Int) - 1)), 0)).bind fun e => match e with
    | s6 =>
      some s6

noncomputable def L_hull_Later_1 (a1 : List Int) (a0 : THull) (a2 : TBounds) (a3 : TPassage) : LoopD (Int × (List TPass)) ((Int × Int)) (Unit) where
  step := fun s => match s with
    | (s1, s2) =>
      (F_hull_delay (a3.Way, s1)).bind fun y7 =>
      (F_hull_Safe (a0, a1, a2, (⟨a3.River, a3.Sides, y7, a3.Keel⟩ : TPassage))).bind fun y8 =>
      bif (y8.2.2.2.2 != 0) then
        some (.inr (0, y8.2.2.2.2))
      else
        bif y8.1 then
          some (.inr (s1, 0))
        else
          (idx? (a3.Way) (y8.2.2.1)).bind fun x9 =>
          (F_hull_longestDelay (a3)).bind fun y10 =>
          bif (decide ((wr ((wr (y8.2.2.2.1 - x9.Hours.Low)) + 1)) > y10)) then
            some (.inr (0, 7))
          else
            some (.inl ((wr ((wr (y8.2.2.2.1 - x9.Hours.Low)) + 1)), y7))
  at_ := fun s gh => match s, gh with
    | (s1, s2), () => ⟨[(1, (V.sl (recs (eI .i64) (a1)) (a1).length)), (4, (V.box 0 0)), (6, (V.box 1 0)), (7, (V.box 2 0)), (8, (V.v (.int .i64 (0)))), (9, (V.v (.int .i64 (0)))), (10, (V.box 6 0)), (11, (V.v (.int .i64 (s1))))], [(0, Bx.var [(V.v (.int .i64 (a0.Lot))), (V.sl (recs eTHullSection (a0.Sections)) (a0.Sections).length)] false), (1, Bx.var [(V.v (.int .i64 (a2.Low))), (V.v (.int .i64 (a2.High)))] false), (2, Bx.var [(V.sl (recs eTReach (a3.River.Reaches)) (a3.River.Reaches).length), (V.sl (recs eTShoal (a3.River.Shoals)) (a3.River.Shoals).length), (V.sl (recs (eS eTBounds) (a3.Sides)) (a3.Sides).length), (V.sl (recs eTPass (a3.Way)) (a3.Way).length), (V.v (.int .i64 (a3.Keel)))] false), (6, Bx.var [(V.sl (recs eTReach (a3.River.Reaches)) (a3.River.Reaches).length), (V.sl (recs eTShoal (a3.River.Shoals)) (a3.River.Shoals).length), (V.sl (recs (eS eTBounds) (a3.Sides)) (a3.Sides).length), (V.sl (recs eTPass (s2)) (s2).length), (V.v (.int .i64 (a3.Keel)))] false)], 7⟩
noncomputable def F_hull_Later : (THull × (List Int) × TBounds × TPassage) → Option (Int × Int) := fun x => match x with
  | (a0, a1, a2, a3) =>
    (loopC (L_hull_Later_1 a1 a0 a2 a3).step (0, a3.Way)).bind fun e => match e with
    | r11 =>
      some r11

noncomputable def L_thalwegref02_Holds_1 (s1 : Int) (s2 : Int) (a0 : THull) : LoopD (Int × (List THullHold)) (((List THullHold))) (Unit) where
  step := fun s => match s with
    | (s16, s17) =>
      (idx? (a0.Sections) (s2)).bind fun x22 =>
      bif (decide (s16 < ((x22.Holds).length : Int))) then
        (idx? (a0.Sections) (s2)).bind fun x23 =>
        (idx? (x23.Holds) (s16)).bind fun x24 =>
        (app? (s17) (([(⟨(wr (s1 + x24.At)), x24.Lots⟩ : THullHold)] : List THullHold)) 16).bind fun l25 =>
        some (.inl ((wr (s16 + 1)), l25))
      else
        some (.inr s17)
  at_ := fun s gh => match s, gh with
    | (s16, s17), () => ⟨[(1, (V.box 0 0)), (2, (V.v (.slice none 0 0))), (3, (V.osl 2 (s17).length)), (4, (V.v (.int .i64 (s1)))), (5, (V.v (.int .i64 (s2)))), (6, (V.v (.int .i64 (s16))))], [(0, Bx.var [(V.v (.int .i64 (a0.Lot))), (V.sl (recs eTHullSection (a0.Sections)) (a0.Sections).length)] false), (2, Bx.row 107 2 (recs eTHullHold (s17)) 0)], 3⟩
noncomputable def L_thalwegref02_Holds_2 (a0 : THull) : LoopD (Int × Int × (List THullHold)) (((List THullHold))) (Unit) where
  step := fun s => match s with
    | (s1, s2, s3) =>
      bif (decide (s2 < ((a0.Sections).length : Int))) then
        (loopC (L_thalwegref02_Holds_1 s1 s2 a0).step (0, s3)).bind fun e => match e with
        | s26 =>
          (idx? (a0.Sections) (s2)).bind fun x27 =>
          some (.inl ((wr (s1 + x27.Length)), (wr (s2 + 1)), s26))
      else
        some (.inr s3)
  at_ := fun s gh => match s, gh with
    | (s1, s2, s3), () => ⟨[(1, (V.box 0 0)), (2, (V.v (.slice none 0 0))), (3, (V.osl 2 (s3).length)), (4, (V.v (.int .i64 (s1)))), (5, (V.v (.int .i64 (s2))))], [(0, Bx.var [(V.v (.int .i64 (a0.Lot))), (V.sl (recs eTHullSection (a0.Sections)) (a0.Sections).length)] false), (2, Bx.row 107 2 (recs eTHullHold (s3)) 0)], 3⟩
noncomputable def F_thalwegref02_Holds : (THull) → Option (List THullHold) := fun x => match x with
  | (a0) =>
    (loopC (L_thalwegref02_Holds_2 a0).step (0, 0, ([] : List THullHold))).bind fun e => match e with
    | s28 =>
      some s28

noncomputable def F_thalwegref01_In : (Int × Int × Int) → Option (Bool) := fun x => match x with
  | (a0, a1, a2) =>
    bif (decide (a0 ≥ a1)) then
      some (decide (a0 ≤ a2))
    else
      some false

noncomputable def L_thalwegref02_Section_1 (a0 : THullSection) : LoopD (Int) (Unit ⊕ Bool) (Unit) where
  step := fun s => match s with
    | s5 =>
      bif (decide (s5 < ((a0.Curve).length : Int))) then
        (idx? (a0.Curve) (s5)).bind fun x19 =>
        (F_thalwegref01_In (x19.Draft, 0, 1000)).bind fun y20 =>
        bif (!y20) then
          some (.inr (.inr false))
        else
          (idx? (a0.Curve) (s5)).bind fun x21 =>
          (F_thalwegref01_In (x21.Volume, 0, 100000)).bind fun y22 =>
          bif (!y22) then
            some (.inr (.inr false))
          else
            bif (s5 == 0) then
              (idx? (a0.Curve) (s5)).bind fun x23 =>
              bif (!(x23.Draft == 0 && (x23.Volume == 0 && true))) then
                some (.inr (.inr false))
              else
                bif (decide (s5 > 0)) then
                  (idx? (a0.Curve) (s5)).bind fun x24 =>
                  (idx? (a0.Curve) ((wr (s5 - 1)))).bind fun x25 =>
                  bif (decide (x24.Draft ≤ x25.Draft)) then
                    some (.inr (.inr false))
                  else
                    (idx? (a0.Curve) (s5)).bind fun x26 =>
                    (idx? (a0.Curve) ((wr (s5 - 1)))).bind fun x27 =>
                    bif (decide (x26.Volume ≤ x27.Volume)) then
                      some (.inr (.inr false))
                    else
                      some (.inl (wr (s5 + 1)))
                else
                  some (.inl (wr (s5 + 1)))
            else
              bif (decide (s5 > 0)) then
                (idx? (a0.Curve) (s5)).bind fun x28 =>
                (idx? (a0.Curve) ((wr (s5 - 1)))).bind fun x29 =>
                bif (decide (x28.Draft ≤ x29.Draft)) then
                  some (.inr (.inr false))
                else
                  (idx? (a0.Curve) (s5)).bind fun x30 =>
                  (idx? (a0.Curve) ((wr (s5 - 1)))).bind fun x31 =>
                  bif (decide (x30.Volume ≤ x31.Volume)) then
                    some (.inr (.inr false))
                  else
                    some (.inl (wr (s5 + 1)))
              else
                some (.inl (wr (s5 + 1)))
      else
        some (.inr (.inl ()))
  at_ := fun s gh => match s, gh with
    | s5, () => ⟨[(1, (V.box 0 0)), (2, (V.v (.bool (false)))), (3, (V.v (.int .i64 (s5))))], [(0, Bx.var [(V.v (.int .i64 (a0.Length))), (V.v (.int .i64 (a0.Light))), (V.v (.int .i64 (a0.Trim))), (V.sl (recs eTHullRow (a0.Curve)) (a0.Curve).length), (V.sl (recs eTHullHold (a0.Holds)) (a0.Holds).length)] false)], 1⟩
noncomputable def L_thalwegref02_Section_2 (a0 : THullSection) : LoopD (Int) (Unit ⊕ Bool) (Unit) where
  step := fun s => match s with
    | s32 =>
      bif (decide (s32 < ((a0.Holds).length : Int))) then
        (idx? (a0.Holds) (s32)).bind fun x37 =>
        (F_thalwegref01_In (x37.At, 0, a0.Length)).bind fun y38 =>
        bif (!y38) then
          some (.inr (.inr false))
        else
          (idx? (a0.Holds) (s32)).bind fun x39 =>
          (F_thalwegref01_In (x39.Lots, 0, 20)).bind fun y40 =>
          bif (!y40) then
            some (.inr (.inr false))
          else
            some (.inl (wr (s32 + 1)))
      else
        some (.inr (.inl ()))
  at_ := fun s gh => match s, gh with
    | s32, () => ⟨[(1, (V.box 0 0)), (2, (V.v (.bool (false)))), (4, (V.v (.int .i64 (s32))))], [(0, Bx.var [(V.v (.int .i64 (a0.Length))), (V.v (.int .i64 (a0.Light))), (V.v (.int .i64 (a0.Trim))), (V.sl (recs eTHullRow (a0.Curve)) (a0.Curve).length), (V.sl (recs eTHullHold (a0.Holds)) (a0.Holds).length)] false)], 1⟩
noncomputable def F_thalwegref02_Section : (THullSection) → Option (Bool) := fun x => match x with
  | (a0) =>
    (F_thalwegref01_In (a0.Length, 1, 100)).bind fun y1 =>
    bif (!y1) then
      some false
    else
      (F_thalwegref01_In (a0.Light, 0, 10000)).bind fun y2 =>
      bif (!y2) then
        some false
      else
        (F_thalwegref01_In (a0.Trim, 1, 100000)).bind fun y3 =>
        bif (!y3) then
          some false
        else
          (F_thalwegref01_In (((a0.Curve).length : Int), 2, 20)).bind fun y4 =>
          bif (!y4) then
            some false
          else
            (loopC (L_thalwegref02_Section_1 a0).step 0).bind fun e => match e with
            | (.inl ()) =>
              (loopC (L_thalwegref02_Section_2 a0).step 0).bind fun e => match e with
              | (.inl ()) =>
                some true
              | (.inr r41) =>
                some r41
            | (.inr r42) =>
              some r42

noncomputable def L_thalwegref02_Length_1 (a0 : THull) : LoopD (Int × Int) (Int) (Unit) where
  step := fun s => match s with
    | (s1, s2) =>
      bif (decide (s2 < ((a0.Sections).length : Int))) then
        (idx? (a0.Sections) (s2)).bind fun x4 =>
        some (.inl ((wr (s1 + x4.Length)), (wr (s2 + 1))))
      else
        some (.inr s1)
  at_ := fun s gh => match s, gh with
    | (s1, s2), () => ⟨[(1, (V.box 0 0)), (2, (V.v (.int .i64 (0)))), (3, (V.v (.int .i64 (s1)))), (4, (V.v (.int .i64 (s2))))], [(0, Bx.var [(V.v (.int .i64 (a0.Lot))), (V.sl (recs eTHullSection (a0.Sections)) (a0.Sections).length)] false)], 1⟩
noncomputable def F_thalwegref02_Length : (THull) → Option (Int) := fun x => match x with
  | (a0) =>
    (loopC (L_thalwegref02_Length_1 a0).step (0, 0)).bind fun e => match e with
    | s5 =>
      some s5

noncomputable def L_thalwegref02_Hull_1 (a0 : THull) : LoopD (Int) (Unit ⊕ Bool) (Unit) where
  step := fun s => match s with
    | s3 =>
      bif (decide (s3 < ((a0.Sections).length : Int))) then
        (idx? (a0.Sections) (s3)).bind fun x6 =>
        (F_thalwegref02_Section (x6)).bind fun y7 =>
        bif (!y7) then
          some (.inr (.inr false))
        else
          some (.inl (wr (s3 + 1)))
      else
        some (.inr (.inl ()))
  at_ := fun s gh => match s, gh with
    | s3, () => ⟨[(1, (V.box 0 0)), (2, (V.v (.bool (false)))), (3, (V.v (.int .i64 (s3))))], [(0, Bx.var [(V.v (.int .i64 (a0.Lot))), (V.sl (recs eTHullSection (a0.Sections)) (a0.Sections).length)] false)], 1⟩
noncomputable def F_thalwegref02_Hull : (THull) → Option (Bool) := fun x => match x with
  | (a0) =>
    (F_thalwegref01_In (a0.Lot, 1, 1000)).bind fun y1 =>
    bif (!y1) then
      some false
    else
      (F_thalwegref01_In (((a0.Sections).length : Int), 1, 6)).bind fun y2 =>
      bif (!y2) then
        some false
      else
        (loopC (L_thalwegref02_Hull_1 a0).step 0).bind fun e => match e with
        | (.inl ()) =>
          (F_thalwegref02_Length (a0)).bind fun y8 =>
          bif (decide (y8 ≤ 200)) then
            (F_thalwegref02_Holds (a0)).bind fun y9 =>
            some (decide (((y9).length : Int) ≤ 4))
          else
            some false
        | (.inr r10) =>
          some r10

noncomputable def F_thalwegref01_Valid : (TBounds × Int × Int) → Option (Bool) := fun x => match x with
  | (a0, a1, a2) =>
    (F_thalwegref01_In (a0.Low, a1, a2)).bind fun y1 =>
    bif y1 then
      (F_thalwegref01_In (a0.High, a0.Low, a2)).bind fun y2 =>
      some y2
    else
      some false

noncomputable def F_thalwegref02_Density : (TBounds) → Option (Bool) := fun x => match x with
  | (a0) =>
    (F_thalwegref01_Valid (a0, 900, 1100)).bind fun y1 =>
    some y1

noncomputable def L_thalwegref02_Load_1 (a1 : List Int) (y2 : List THullHold) (a2 : TBounds) : LoopD (Int) (Unit ⊕ Int) (Unit) where
  step := fun s => match s with
    | s3 =>
      bif (decide (s3 < ((a1).length : Int))) then
        (idx? (a1) (s3)).bind fun x7 =>
        (idx? (y2) (s3)).bind fun x8 =>
        (F_thalwegref01_In (x7, 0, x8.Lots)).bind fun y9 =>
        bif (!y9) then
          some (.inr (.inr 3))
        else
          some (.inl (wr (s3 + 1)))
      else
        some (.inr (.inl ()))
  at_ := fun s gh => match s, gh with
    | s3, () => ⟨[(1, (V.sl (recs (eI .i64) (a1)) (a1).length)), (5, (V.box 1 0)), (6, (V.v (.int .i64 (0)))), (7, (V.sl (recs eTHullHold (y2)) (y2).length)), (8, (V.v (.int .i64 (s3))))], [(1, Bx.var [(V.v (.int .i64 (a2.Low))), (V.v (.int .i64 (a2.High)))] false)], 2⟩
noncomputable def F_thalwegref02_Load : (THull × (List Int) × TBounds) → Option (Int) := fun x => match x with
  | (a0, a1, a2) =>
    (F_thalwegref02_Hull (a0)).bind fun y1 =>
    bif (!y1) then
      some 2
    else
      (F_thalwegref02_Holds (a0)).bind fun y2 =>
      bif (((a1).length : Int) != ((y2).length : Int)) then
        some 4
      else
        (loopC (L_thalwegref02_Load_1 a1 y2 a2).step 0).bind fun e => match e with
        | (.inl ()) =>
          (F_thalwegref02_Density (a2)).bind fun y10 =>
          bif (!y10) then
            some 2
          else
            some 0
        | (.inr r11) =>
          some r11

noncomputable def L_thalwegref02_Limit_1 (a0 : THull) : LoopD (Int × Int) (Int) (Unit) where
  step := fun s => match s with
    | (s1, s2) =>
      bif (decide (s2 < ((a0.Sections).length : Int))) then
        (idx? (a0.Sections) (s2)).bind fun x5 =>
        (idx? (x5.Curve) ((wr (((x5.Curve).length : Int) - 1)))).bind fun x6 =>
        some (.inl ((minmax false s1 x6.Draft), (wr (s2 + 1))))
      else
        some (.inr s1)
  at_ := fun s gh => match s, gh with
    | (s1, s2), () => ⟨[(1, (V.box 0 0)), (2, (V.v (.int .i64 (0)))), (3, (V.v (.int .i64 (s1)))), (4, (V.v (.int .i64 (s2))))], [(0, Bx.var [(V.v (.int .i64 (a0.Lot))), (V.sl (recs eTHullSection (a0.Sections)) (a0.Sections).length)] false)], 1⟩
noncomputable def F_thalwegref02_Limit : (THull) → Option (Int) := fun x => match x with
  | (a0) =>
    (loopC (L_thalwegref02_Limit_1 a0).step (1000, 0)).bind fun e => match e with
    | s7 =>
      some s7

noncomputable def F_thalwegref01_Ceil : (Int × Int) → Option (Int) := fun x => match x with
  | (a0, a1) =>
    (nz? (a1)).bind fun _ =>
    bif (decide ((wr ((wr (Int.tdiv a0 a1)) * a1)) < a0)) then
      some (wr ((wr (Int.tdiv a0 a1)) + 1))
    else
      some (wr (Int.tdiv a0 a1))

noncomputable def L_thalwegref02_Mass_1 (a1 : List Int) (a0 : THull) : LoopD (Int × Int) (Int) (Unit) where
  step := fun s => match s with
    | (s1, s2) =>
      bif (decide (s2 < ((a0.Sections).length : Int))) then
        (idx? (a0.Sections) (s2)).bind fun x4 =>
        some (.inl ((wr (s1 + x4.Light)), (wr (s2 + 1))))
      else
        some (.inr s1)
  at_ := fun s gh => match s, gh with
    | (s1, s2), () => ⟨[(1, (V.sl (recs (eI .i64) (a1)) (a1).length)), (2, (V.box 0 0)), (4, (V.v (.int .i64 (0)))), (5, (V.v (.int .i64 (s1)))), (6, (V.v (.int .i64 (s2))))], [(0, Bx.var [(V.v (.int .i64 (a0.Lot))), (V.sl (recs eTHullSection (a0.Sections)) (a0.Sections).length)] false)], 1⟩
noncomputable def L_thalwegref02_Mass_2 (a1 : List Int) (a0 : THull) : LoopD (Int × Int) (Int) (Unit) where
  step := fun s => match s with
    | (s6, s7) =>
      bif (decide (s7 < ((a1).length : Int))) then
        (idx? (a1) (s7)).bind fun x9 =>
        some (.inl ((wr (s6 + (wr (x9 * a0.Lot)))), (wr (s7 + 1))))
      else
        some (.inr s6)
  at_ := fun s gh => match s, gh with
    | (s6, s7), () => ⟨[(1, (V.sl (recs (eI .i64) (a1)) (a1).length)), (2, (V.box 0 0)), (4, (V.v (.int .i64 (0)))), (5, (V.v (.int .i64 (s6)))), (7, (V.v (.int .i64 (s7))))], [(0, Bx.var [(V.v (.int .i64 (a0.Lot))), (V.sl (recs eTHullSection (a0.Sections)) (a0.Sections).length)] false)], 1⟩
noncomputable def F_thalwegref02_Mass : (THull × (List Int)) → Option (Int) := fun x => match x with
  | (a0, a1) =>
    (loopC (L_thalwegref02_Mass_1 a1 a0).step (0, 0)).bind fun e => match e with
    | s5 =>
      (loopC (L_thalwegref02_Mass_2 a1 a0).step (s5, 0)).bind fun e => match e with
      | s10 =>
        some s10

noncomputable def L_thalwegref02_Volume_1 (a1 : Int) (s1 : Int) (s2 : Int) (x10 : THullSection) (a0 : THull) : LoopD (Int) (Int) (Unit) where
  step := fun s => match s with
    | s11 =>
      (idx? (x10.Curve) (s11)).bind fun x13 =>
      bif (decide (x13.Draft < a1)) then
        some (.inl (wr (s11 + 1)))
      else
        some (.inr s11)
  at_ := fun s gh => match s, gh with
    | s11, () => ⟨[(1, (V.v (.int .i64 (a1)))), (2, (V.box 0 0)), (4, (V.v (.int .i64 (0)))), (5, (V.v (.int .i64 (s1)))), (6, (V.v (.int .i64 (s2)))), (7, (V.sl (recs eTHullRow (x10.Curve)) (x10.Curve).length)), (8, (V.v (.int .i64 (s11))))], [(0, Bx.var [(V.v (.int .i64 (a0.Lot))), (V.sl (recs eTHullSection (a0.Sections)) (a0.Sections).length)] false)], 1⟩
noncomputable def L_thalwegref02_Volume_2 (a1 : Int) (a0 : THull) : LoopD (Int × Int) (Int) (Unit) where
  step := fun s => match s with
    | (s1, s2) =>
      bif (decide (s2 < ((a0.Sections).length : Int))) then
        (idx? (a0.Sections) (s2)).bind fun x10 =>
        (loopC (L_thalwegref02_Volume_1 a1 s1 s2 x10 a0).step 1).bind fun e => match e with
        | s14 =>
          (idx? (x10.Curve) ((wr (s14 - 1)))).bind fun x15 =>
          (idx? (x10.Curve) (s14)).bind fun x16 =>
          (nz? ((wr (x16.Draft - x15.Draft)))).bind fun _ =>
          some (.inl ((wr (s1 + (wr (x15.Volume + (wr (Int.tdiv (wr ((wr (a1 - x15.Draft)) * (wr (x16.Volume - x15.Volume)))) (wr (x16.Draft - x15.Draft)))))))), (wr (s2 + 1))))
      else
        some (.inr s1)
  at_ := fun s gh => match s, gh with
    | (s1, s2), () => ⟨[(1, (V.v (.int .i64 (a1)))), (2, (V.box 0 0)), (4, (V.v (.int .i64 (0)))), (5, (V.v (.int .i64 (s1)))), (6, (V.v (.int .i64 (s2))))], [(0, Bx.var [(V.v (.int .i64 (a0.Lot))), (V.sl (recs eTHullSection (a0.Sections)) (a0.Sections).length)] false)], 1⟩
noncomputable def F_thalwegref02_Volume : (THull × Int) → Option (Int) := fun x => match x with
  | (a0, a1) =>
    (loopC (L_thalwegref02_Volume_2 a1 a0).step (0, 0)).bind fun e => match e with
    | s17 =>
      some s17

noncomputable def L_thalwegref02_Mean_1 (y2 : Int) (a0 : THull) : LoopD (Int) (Unit ⊕ Int) (Unit) where
  step := fun s => match s with
    | s3 =>
      (F_thalwegref02_Limit (a0)).bind fun y6 =>
      bif (decide (s3 ≤ y6)) then
        (F_thalwegref02_Volume (a0, s3)).bind fun y7 =>
        bif (decide (y7 ≥ y2)) then
          some (.inr (.inr s3))
        else
          some (.inl (wr (s3 + 1)))
      else
        some (.inr (.inl ()))
  at_ := fun s gh => match s, gh with
    | s3, () => ⟨[(3, (V.box 0 0)), (6, (V.v (.int .i64 (0)))), (7, (V.v (.int .i64 (y2)))), (8, (V.v (.int .i64 (s3))))], [(0, Bx.var [(V.v (.int .i64 (a0.Lot))), (V.sl (recs eTHullSection (a0.Sections)) (a0.Sections).length)] false)], 1⟩
noncomputable def F_thalwegref02_Mean : (THull × (List Int) × Int) → Option (Int) := fun x => match x with
  | (a0, a1, a2) =>
    (F_thalwegref02_Mass (a0, a1)).bind fun y1 =>
    (F_thalwegref01_Ceil ((wr (y1 * 1000)), a2)).bind fun y2 =>
    (loopC (L_thalwegref02_Mean_1 y2 a0).step 0).bind fun e => match e with
    | (.inl ()) =>
      some (-1)
    | (.inr r8) =>
      some r8

noncomputable def L_thalwegref02_Moment_1 (a1 : List Int) (y1 : Int) (y2 : List THullHold) (a0 : THull) : LoopD (Int × Int × Int) (Int) (Unit) where
  step := fun s => match s with
    | (s3, s4, s5) =>
      bif (decide (s5 < ((a0.Sections).length : Int))) then
        (idx? (a0.Sections) (s5)).bind fun x7 =>
        some (.inl ((wr (s3 + (wr (x7.Light * (wr ((wr ((wr (2 * s4)) + x7.Length)) - y1)))))), (wr (s4 + x7.Length)), (wr (s5 + 1))))
      else
        some (.inr s3)
  at_ := fun s gh => match s, gh with
    | (s3, s4, s5), () => ⟨[(1, (V.sl (recs (eI .i64) (a1)) (a1).length)), (2, (V.box 0 0)), (4, (V.v (.int .i64 (0)))), (5, (V.v (.int .i64 (s3)))), (6, (V.v (.int .i64 (s4)))), (7, (V.v (.int .i64 (y1)))), (8, (V.sl (recs eTHullHold (y2)) (y2).length)), (9, (V.v (.int .i64 (s5))))], [(0, Bx.var [(V.v (.int .i64 (a0.Lot))), (V.sl (recs eTHullSection (a0.Sections)) (a0.Sections).length)] false)], 1⟩
noncomputable def L_thalwegref02_Moment_2 (a1 : List Int) (y1 : Int) (y2 : List THullHold) (a0 : THull) : LoopD (Int × Int) (Int) (Unit) where
  step := fun s => match s with
    | (s9, s10) =>
      bif (decide (s10 < ((a1).length : Int))) then
        (idx? (a1) (s10)).bind fun x13 =>
        (idx? (y2) (s10)).bind fun x14 =>
        some (.inl ((wr (s9 + (wr ((wr (x13 * a0.Lot)) * (wr ((wr (2 * x14.At)) - y1)))))), (wr (s10 + 1))))
      else
        some (.inr s9)
  at_ := fun s gh => match s, gh with
    | (s9, s10), () => ⟨[(1, (V.sl (recs (eI .i64) (a1)) (a1).length)), (2, (V.box 0 0)), (4, (V.v (.int .i64 (0)))), (5, (V.v (.int .i64 (s9)))), (7, (V.v (.int .i64 (y1)))), (8, (V.sl (recs eTHullHold (y2)) (y2).length)), (11, (V.v (.int .i64 (s10))))], [(0, Bx.var [(V.v (.int .i64 (a0.Lot))), (V.sl (recs eTHullSection (a0.Sections)) (a0.Sections).length)] false)], 1⟩
noncomputable def F_thalwegref02_Moment : (THull × (List Int)) → Option (Int) := fun x => match x with
  | (a0, a1) =>
    (F_thalwegref02_Length (a0)).bind fun y1 =>
    (F_thalwegref02_Holds (a0)).bind fun y2 =>
    (loopC (L_thalwegref02_Moment_1 a1 y1 y2 a0).step (0, 0, 0)).bind fun e => match e with
    | s8 =>
      (loopC (L_thalwegref02_Moment_2 a1 y1 y2 a0).step (s8, 0)).bind fun e => match e with
      | s15 =>
        some s15

noncomputable def L_thalwegref02_Trim_1 (y1 : Int) (a0 : THull) : LoopD (Int × Int) (Int) (Unit) where
  step := fun s => match s with
    | (s2, s3) =>
      bif (decide (s3 < ((a0.Sections).length : Int))) then
        (idx? (a0.Sections) (s3)).bind fun x5 =>
        some (.inl ((wr (s2 + x5.Trim)), (wr (s3 + 1))))
      else
        some (.inr s2)
  at_ := fun s gh => match s, gh with
    | (s2, s3), () => ⟨[(2, (V.box 0 0)), (4, (V.v (.int .i64 (0)))), (5, (V.v (.int .i64 (s2)))), (6, (V.v (.int .i64 (y1)))), (7, (V.v (.int .i64 (s3))))], [(0, Bx.var [(V.v (.int .i64 (a0.Lot))), (V.sl (recs eTHullSection (a0.Sections)) (a0.Sections).length)] false)], 1⟩
noncomputable def F_thalwegref02_Trim : (THull × (List Int)) → Option (Int) := fun x => match x with
  | (a0, a1) =>
    (F_thalwegref02_Moment (a0, a1)).bind fun y1 =>
    (loopC (L_thalwegref02_Trim_1 y1 a0).step (0, 0)).bind fun e => match e with
    | s6 =>
      (F_thalwegref01_Ceil ((minmax true y1 (wr (0 - y1))), (wr (4 * s6)))).bind fun y7 =>
      some y7

noncomputable def F_thalwegref02_Float : (THull × (List Int) × TBounds) → Option (THullFloat × Bool) := fun x => match x with
  | (a0, a1, a2) =>
    (F_thalwegref02_Mean (a0, a1, a2.High)).bind fun y1 =>
    (F_thalwegref02_Mean (a0, a1, a2.Low)).bind fun y2 =>
    (F_thalwegref02_Trim (a0, a1)).bind fun y3 =>
    (F_thalwegref02_Moment (a0, a1)).bind fun y4 =>
    bif (decide (y2 < 0)) then
      some ((⟨(⟨0, 0⟩ : TBounds), (⟨0, 0⟩ : TBounds), 0⟩ : THullFloat), false)
    else
      (F_thalwegref02_Limit (a0)).bind fun y5 =>
      bif (decide ((wr (y2 + y3)) > y5)) then
        some ((⟨(⟨0, 0⟩ : TBounds), (⟨0, 0⟩ : TBounds), 0⟩ : THullFloat), false)
      else
        bif (decide (y4 < 0)) then
          bif (decide (y4 > 0)) then
            some ((⟨(⟨y1, y2⟩ : TBounds), (⟨(wr (y1 + y3)), (wr (y2 + y3))⟩ : TBounds), 1⟩ : THullFloat), true)
          else
            some ((⟨(⟨y1, y2⟩ : TBounds), (⟨(wr (y1 + y3)), (wr (y2 + y3))⟩ : TBounds), (-1)⟩ : THullFloat), true)
        else
          bif (decide (y4 > 0)) then
            some ((⟨(⟨y1, y2⟩ : TBounds), (⟨(wr (y1 + y3)), (wr (y2 + y3))⟩ : TBounds), 1⟩ : THullFloat), true)
          else
            some ((⟨(⟨y1, y2⟩ : TBounds), (⟨(wr (y1 + y3)), (wr (y2 + y3))⟩ : TBounds), 0⟩ : THullFloat), true)

noncomputable def L_thalwegref01_Places_1 (a0 : TRiver) : LoopD (Int × Int) (Int) (Unit) where
  step := fun s => match s with
    | (s1, s2) =>
      bif (decide (s2 < ((a0.Reaches).length : Int))) then
        (idx? (a0.Reaches) (s2)).bind fun x4 =>
        some (.inl ((wr (s1 + x4.Length)), (wr (s2 + 1))))
      else
        some (.inr s1)
  at_ := fun s gh => match s, gh with
    | (s1, s2), () => ⟨[(1, (V.box 0 0)), (2, (V.v (.int .i64 (0)))), (3, (V.v (.int .i64 (s1)))), (4, (V.v (.int .i64 (s2))))], [(0, Bx.var [(V.sl (recs eTReach (a0.Reaches)) (a0.Reaches).length), (V.sl (recs eTShoal (a0.Shoals)) (a0.Shoals).length)] false)], 1⟩
noncomputable def F_thalwegref01_Places : (TRiver) → Option (Int) := fun x => match x with
  | (a0) =>
    (loopC (L_thalwegref01_Places_1 a0).step (0, 0)).bind fun e => match e with
    | s5 =>
      some s5

noncomputable def L_thalwegref01_Reach_1 (a0 : TReach) : LoopD (Int) (Unit ⊕ Bool) (Unit) where
  step := fun s => match s with
    | s8 =>
      bif (decide (s8 < ((a0.Curve).length : Int))) then
        (idx? (a0.Curve) (s8)).bind fun x17 =>
        (F_thalwegref01_In (x17.Flow, 0, 10000000000)).bind fun y18 =>
        bif (!y18) then
          some (.inr (.inr false))
        else
          (idx? (a0.Curve) (s8)).bind fun x19 =>
          (F_thalwegref01_In (x19.Level, 0, 10000)).bind fun y20 =>
          bif (!y20) then
            some (.inr (.inr false))
          else
            bif (decide (s8 > 0)) then
              (idx? (a0.Curve) (s8)).bind fun x21 =>
              (idx? (a0.Curve) ((wr (s8 - 1)))).bind fun x22 =>
              bif (decide (x21.Flow ≤ x22.Flow)) then
                some (.inr (.inr false))
              else
                (idx? (a0.Curve) (s8)).bind fun x23 =>
                (idx? (a0.Curve) ((wr (s8 - 1)))).bind fun x24 =>
                bif (decide (x23.Level < x24.Level)) then
                  some (.inr (.inr false))
                else
                  some (.inl (wr (s8 + 1)))
            else
              some (.inl (wr (s8 + 1)))
      else
        some (.inr (.inl ()))
  at_ := fun s gh => match s, gh with
    | s8, () => ⟨[(1, (V.box 0 0)), (2, (V.v (.bool (false)))), (3, (V.v (.int .i64 (s8))))], [(0, Bx.var [(V.v (.int .i64 (a0.Length))), (V.v (.int .i64 (a0.Delay))), (V.v (.int .i64 (a0.Base.Low))), (V.v (.int .i64 (a0.Base.High))), (V.sl (recs eTRateRow (a0.Curve)) (a0.Curve).length), (V.v (.int .i64 (a0.Weir))), (V.v (.int .i64 (a0.Bottom.Low))), (V.v (.int .i64 (a0.Bottom.High))), (V.v (.int .i64 (a0.Flood)))] false)], 1⟩
noncomputable def F_thalwegref01_Reach : (TReach) → Option (Bool) := fun x => match x with
  | (a0) =>
    (F_thalwegref01_In (a0.Length, 1, 5000)).bind fun y1 =>
    bif (!y1) then
      some false
    else
      (F_thalwegref01_In (a0.Delay, 0, 200)).bind fun y2 =>
      bif (!y2) then
        some false
      else
        (F_thalwegref01_Valid (a0.Base, 0, 10000000000)).bind fun y3 =>
        bif (!y3) then
          some false
        else
          (F_thalwegref01_In (((a0.Curve).length : Int), 2, 30)).bind fun y4 =>
          bif (!y4) then
            some false
          else
            (F_thalwegref01_In (a0.Weir, 0, 10000)).bind fun y5 =>
            bif (!y5) then
              some false
            else
              (F_thalwegref01_Valid (a0.Bottom, 0, 10000)).bind fun y6 =>
              bif (!y6) then
                some false
              else
                (F_thalwegref01_In (a0.Flood, 0, 10000)).bind fun y7 =>
                bif (!y7) then
                  some false
                else
                  (loopC (L_thalwegref01_Reach_1 a0).step 0).bind fun e => match e with
                  | (.inl ()) =>
                    some true
                  | (.inr r25) =>
                    some r25

noncomputable def L_thalwegref01_River_1 (a0 : TRiver) : LoopD (Int) (Unit ⊕ Bool) (Unit) where
  step := fun s => match s with
    | s2 =>
      bif (decide (s2 < ((a0.Reaches).length : Int))) then
        (idx? (a0.Reaches) (s2)).bind fun x5 =>
        (F_thalwegref01_Reach (x5)).bind fun y6 =>
        bif (!y6) then
          some (.inr (.inr false))
        else
          some (.inl (wr (s2 + 1)))
      else
        some (.inr (.inl ()))
  at_ := fun s gh => match s, gh with
    | s2, () => ⟨[(1, (V.box 0 0)), (2, (V.v (.bool (false)))), (3, (V.v (.int .i64 (s2))))], [(0, Bx.var [(V.sl (recs eTReach (a0.Reaches)) (a0.Reaches).length), (V.sl (recs eTShoal (a0.Shoals)) (a0.Shoals).length)] false)], 1⟩
noncomputable def L_thalwegref01_River_2 (a0 : TRiver) : LoopD (Int) (Unit ⊕ Bool) (Unit) where
  step := fun s => match s with
    | s7 =>
      bif (decide (s7 < ((a0.Shoals).length : Int))) then
        (idx? (a0.Shoals) (s7)).bind fun x14 =>
        (F_thalwegref01_Places (a0)).bind fun y15 =>
        (F_thalwegref01_In (x14.Place, 0, (wr (y15 - 1)))).bind fun y16 =>
        bif (!y16) then
          some (.inr (.inr false))
        else
          (F_thalwegref01_Valid (x14.Bed, 0, 10000)).bind fun y17 =>
          bif (!y17) then
            some (.inr (.inr false))
          else
            (F_thalwegref01_In (x14.Sounded, (-400), 400)).bind fun y18 =>
            bif (!y18) then
              some (.inr (.inr false))
            else
              (F_thalwegref01_Valid (x14.Grow, (-500), 500)).bind fun y19 =>
              bif (!y19) then
                some (.inr (.inr false))
              else
                some (.inl (wr (s7 + 1)))
      else
        some (.inr (.inl ()))
  at_ := fun s gh => match s, gh with
    | s7, () => ⟨[(1, (V.box 0 0)), (2, (V.v (.bool (false)))), (4, (V.v (.int .i64 (s7))))], [(0, Bx.var [(V.sl (recs eTReach (a0.Reaches)) (a0.Reaches).length), (V.sl (recs eTShoal (a0.Shoals)) (a0.Shoals).length)] false)], 1⟩
noncomputable def F_thalwegref01_River : (TRiver) → Option (Bool) := fun x => match x with
  | (a0) =>
    (F_thalwegref01_In (((a0.Reaches).length : Int), 1, 20)).bind fun y1 =>
    bif (!y1) then
      some false
    else
      bif (decide (((a0.Shoals).length : Int) > 40)) then
        some false
      else
        (loopC (L_thalwegref01_River_1 a0).step 0).bind fun e => match e with
        | (.inl ()) =>
          (loopC (L_thalwegref01_River_2 a0).step 0).bind fun e => match e with
          | (.inl ()) =>
            some true
          | (.inr r20) =>
            some r20
        | (.inr r21) =>
          some r21

noncomputable def L_thalwegref01_Start_1 (a1 : List (List TBounds)) : LoopD (Int) (Unit ⊕ Int) (Unit) where
  step := fun s => match s with
    | s3 =>
      bif (decide (s3 < ((a1).length : Int))) then
        (idx? (a1) (s3)).bind fun x6 =>
        (idx? (a1) (0)).bind fun x7 =>
        bif (((x6).length : Int) != ((x7).length : Int)) then
          some (.inr (.inr 4))
        else
          some (.inl (wr (s3 + 1)))
      else
        some (.inr (.inl ()))
  at_ := fun s gh => match s, gh with
    | s3, () => ⟨[(1, (V.sl (recs (eS eTBounds) (a1)) (a1).length)), (4, (V.v (.int .i64 (0)))), (5, (V.v (.int .i64 (s3))))], [], 0⟩
noncomputable def L_thalwegref01_Start_2 (a1 : List (List TBounds)) (s9 : Int) : LoopD (Int) (Unit ⊕ Int) (Unit) where
  step := fun s => match s with
    | s20 =>
      (idx? (a1) (s9)).bind fun x25 =>
      bif (decide (s20 < ((x25).length : Int))) then
        (idx? (a1) (s9)).bind fun x26 =>
        (idx? (x26) (s20)).bind fun x27 =>
        (F_thalwegref01_Valid (x27, 0, 10000000000)).bind fun y28 =>
        bif (!y28) then
          some (.inr (.inr 2))
        else
          some (.inl (wr (s20 + 1)))
      else
        some (.inr (.inl ()))
  at_ := fun s gh => match s, gh with
    | s20, () => ⟨[(1, (V.sl (recs (eS eTBounds) (a1)) (a1).length)), (4, (V.v (.int .i64 (0)))), (6, (V.v (.int .i64 (s9)))), (7, (V.v (.int .i64 (s20))))], [], 0⟩
noncomputable def L_thalwegref01_Start_3 (a1 : List (List TBounds)) : LoopD (Int) (Unit ⊕ Int) (Unit) where
  step := fun s => match s with
    | s9 =>
      bif (decide (s9 < ((a1).length : Int))) then
        (loopC (L_thalwegref01_Start_2 a1 s9).step 0).bind fun e => match e with
        | (.inl ()) =>
          some (.inl (wr (s9 + 1)))
        | (.inr r29) =>
          some (.inr (.inr r29))
      else
        some (.inr (.inl ()))
  at_ := fun s gh => match s, gh with
    | s9, () => ⟨[(1, (V.sl (recs (eS eTBounds) (a1)) (a1).length)), (4, (V.v (.int .i64 (0)))), (6, (V.v (.int .i64 (s9))))], [], 0⟩
noncomputable def F_thalwegref01_Start : (TRiver × (List (List TBounds))) → Option (Int) := fun x => match x with
  | (a0, a1) =>
    (F_thalwegref01_River (a0)).bind fun y1 =>
    bif (!y1) then
      some 2
    else
      bif (((a1).length : Int) != ((a0.Reaches).length : Int)) then
        some 4
      else
        (idx? (a1) (0)).bind fun x2 =>
        bif (((x2).length : Int) == 0) then
          some 4
        else
          (loopC (L_thalwegref01_Start_1 a1).step 0).bind fun e => match e with
          | (.inl ()) =>
            (idx? (a1) (0)).bind fun x8 =>
            bif (decide (((x8).length : Int) > 400)) then
              some 5
            else
              (loopC (L_thalwegref01_Start_3 a1).step 0).bind fun e => match e with
              | (.inl ()) =>
                some 0
              | (.inr r30) =>
                some r30
          | (.inr r31) =>
            some r31

noncomputable def L_thalwegref01_Way_1 (a1 : List TPass) (a2 : Int) (a0 : TRiver) : LoopD (Int) (Unit ⊕ Int) (Unit) where
  step := fun s => match s with
    | s1 =>
      bif (decide (s1 < ((a1).length : Int))) then
        (idx? (a1) (s1)).bind fun x7 =>
        (F_thalwegref01_Places (a0)).bind fun y8 =>
        (F_thalwegref01_In (x7.Place, 0, (wr (y8 - 1)))).bind fun y9 =>
        bif (!y9) then
          some (.inr (.inr 7))
        else
          (idx? (a1) (s1)).bind fun x10 =>
          (F_thalwegref01_Valid (x10.Hours, 0, (wr (a2 - 1)))).bind fun y11 =>
          bif (!y11) then
            some (.inr (.inr 3))
          else
            some (.inl (wr (s1 + 1)))
      else
        some (.inr (.inl ()))
  at_ := fun s gh => match s, gh with
    | s1, () => ⟨[(1, (V.sl (recs eTPass (a1)) (a1).length)), (2, (V.v (.int .i64 (a2)))), (3, (V.box 0 0)), (6, (V.v (.int .i64 (0)))), (7, (V.v (.int .i64 (s1))))], [(0, Bx.var [(V.sl (recs eTReach (a0.Reaches)) (a0.Reaches).length), (V.sl (recs eTShoal (a0.Shoals)) (a0.Shoals).length)] false)], 1⟩
noncomputable def F_thalwegref01_Way : (TRiver × (List TPass) × Int) → Option (Int) := fun x => match x with
  | (a0, a1, a2) =>
    bif (((a1).length : Int) == 0) then
      some 4
    else
      bif (decide (((a1).length : Int) > 60)) then
        some 5
      else
        (loopC (L_thalwegref01_Way_1 a1 a2 a0).step 0).bind fun e => match e with
        | (.inl ()) =>
          some 0
        | (.inr r12) =>
          some r12

noncomputable def F_thalwegref02_Passage : (TPassage) → Option (Int) := fun x => match x with
  | (a0) =>
    (F_thalwegref01_In (a0.Keel, 0, 500)).bind fun y1 =>
    bif (!y1) then
      some 3
    else
      (F_thalwegref01_Start (a0.River, a0.Sides)).bind fun y2 =>
      bif (y2 != 0) then
        some y2
      else
        (idx? (a0.Sides) (0)).bind fun x3 =>
        (F_thalwegref01_Way (a0.River, a0.Way, ((x3).length : Int))).bind fun y4 =>
        some y4

noncomputable def F_thalweglaw02_start : (Tthalweglaw02_Loaded × TPassage) → Option (THullFloat × Int) := fun x => match x with
  | (a0, a1) =>
    (F_thalwegref02_Load (a0.Hull, a0.Load, a0.Density)).bind fun y1 =>
    bif (y1 != 0) then
      some ((⟨(⟨0, 0⟩ : TBounds), (⟨0, 0⟩ : TBounds), 0⟩ : THullFloat), y1)
    else
      (F_thalwegref02_Float (a0.Hull, a0.Load, a0.Density)).bind fun y2 =>
      bif (!y2.2) then
        some ((⟨(⟨0, 0⟩ : TBounds), (⟨0, 0⟩ : TBounds), 0⟩ : THullFloat), 8)
      else
        (F_thalwegref02_Passage (a1)).bind fun y3 =>
        some (y2.1, y3)

noncomputable def L_thalwegref01_Of_1 (a0 : TRiver) : LoopD (Int × Int) (Int) (Unit) where
  step := fun s => match s with
    | (s1, s2) =>
      (idx? (a0.Reaches) (s2)).bind fun x5 =>
      bif (decide (s1 ≥ x5.Length)) then
        (idx? (a0.Reaches) (s2)).bind fun x6 =>
        some (.inl ((wr (s1 - x6.Length)), (wr (s2 + 1))))
      else
        some (.inr s2)
  at_ := fun s gh => match s, gh with
    | (s1, s2), () => ⟨[(1, (V.v (.int .i64 (s1)))), (2, (V.box 0 0)), (4, (V.v (.int .i64 (0)))), (5, (V.v (.int .i64 (s2))))], [(0, Bx.var [(V.sl (recs eTReach (a0.Reaches)) (a0.Reaches).length), (V.sl (recs eTShoal (a0.Shoals)) (a0.Shoals).length)] false)], 1⟩
noncomputable def F_thalwegref01_Of : (TRiver × Int) → Option (Int) := fun x => match x with
  | (a0, a1) =>
    (loopC (L_thalwegref01_Of_1 a0).step (a1, 0)).bind fun e => match e with
    | s7 =>
      some s7

noncomputable def F_thalwegref01_Floor : (Int × Int) → Option (Int) := fun x => match x with
  | (a0, a1) =>
    (nz? (a1)).bind fun _ =>
    bif (decide ((wr ((wr (Int.tdiv a0 a1)) * a1)) > a0)) then
      some (wr ((wr (Int.tdiv a0 a1)) - 1))
    else
      some (wr (Int.tdiv a0 a1))

noncomputable def L_thalwegref01_Curve_1 (a1 : Int) (a2 : Bool) (a0 : TReach) : LoopD (Int) (Int) (Unit) where
  step := fun s => match s with
    | s4 =>
      (idx? (a0.Curve) ((wr (s4 + 1)))).bind fun x6 =>
      bif (decide (x6.Flow < a1)) then
        some (.inl (wr (s4 + 1)))
      else
        some (.inr s4)
  at_ := fun s gh => match s, gh with
    | s4, () => ⟨[(1, (V.v (.int .i64 (a1)))), (2, (V.v (.bool (a2)))), (3, (V.box 0 0)), (6, (V.v (.int .i64 (0)))), (8, (V.v (.int .i64 (s4))))], [(0, Bx.var [(V.v (.int .i64 (a0.Length))), (V.v (.int .i64 (a0.Delay))), (V.v (.int .i64 (a0.Base.Low))), (V.v (.int .i64 (a0.Base.High))), (V.sl (recs eTRateRow (a0.Curve)) (a0.Curve).length), (V.v (.int .i64 (a0.Weir))), (V.v (.int .i64 (a0.Bottom.Low))), (V.v (.int .i64 (a0.Bottom.High))), (V.v (.int .i64 (a0.Flood)))] false)], 1⟩
noncomputable def F_thalwegref01_Curve : (TReach × Int × Bool) → Option (Int) := fun x => match x with
  | (a0, a1, a2) =>
    (idx? (a0.Curve) ((wr (((a0.Curve).length : Int) - 1)))).bind fun x1 =>
    (idx? (a0.Curve) (0)).bind fun x2 =>
    bif (decide (a1 ≤ x2.Flow)) then
      (idx? (a0.Curve) (0)).bind fun x3 =>
      some x3.Level
    else
      bif (decide (a1 ≥ x1.Flow)) then
        some x1.Level
      else
        (loopC (L_thalwegref01_Curve_1 a1 a2 a0).step 0).bind fun e => match e with
        | s7 =>
          (idx? (a0.Curve) (s7)).bind fun x8 =>
          (idx? (a0.Curve) ((wr (s7 + 1)))).bind fun x9 =>
          bif a2 then
            (F_thalwegref01_Ceil ((wr ((wr (a1 - x8.Flow)) * (wr (x9.Level - x8.Level)))), (wr (x9.Flow - x8.Flow)))).bind fun y10 =>
            some (wr (x8.Level + y10))
          else
            (F_thalwegref01_Floor ((wr ((wr (a1 - x8.Flow)) * (wr (x9.Level - x8.Level)))), (wr (x9.Flow - x8.Flow)))).bind fun y11 =>
            some (wr (x8.Level + y11))

noncomputable def F_thalwegref01_Level : (TReach × TBounds) → Option (TBounds) := fun x => match x with
  | (a0, a1) =>
    (F_thalwegref01_Curve (a0, a1.Low, false)).bind fun y1 =>
    (F_thalwegref01_Curve (a0, a1.High, true)).bind fun y2 =>
    some (⟨(minmax true a0.Weir y1), (minmax true a0.Weir y2)⟩ : TBounds)

noncomputable def B_thalwegref01_Flow (rec0 : (TRiver × (List (List TBounds)) × Int × Int) → Option (TBounds)) : (TRiver × (List (List TBounds)) × Int × Int) → Option (TBounds) := fun x => match x with
  | (a0, a1, a2, a3) =>
    bif (decide (a3 < 0)) then
      (idx? (a0.Reaches) (a2)).bind fun x1 =>
      some x1.Base
    else
      (idx? (a1) (a2)).bind fun x2 =>
      (idx? (x2) (a3)).bind fun x3 =>
      bif (decide (a2 > 0)) then
        (idx? (a0.Reaches) ((wr (a2 - 1)))).bind fun x4 =>
        (rec0 (a0, a1, (wr (a2 - 1)), (wr (a3 - x4.Delay)))).bind fun y5 =>
        some (⟨(wr (x3.Low + y5.Low)), (wr (x3.High + y5.High))⟩ : TBounds)
      else
        some x3
noncomputable def F_thalwegref01_Flow : (TRiver × (List (List TBounds)) × Int × Int) → Option (TBounds) := fixC B_thalwegref01_Flow

noncomputable def L_thalwegref01_Bed_1 (a1 : Int) (a2 : Int) (a0 : TRiver) : LoopD (Int × Int × Int) ((Int × Int)) (Unit) where
  step := fun s => match s with
    | (s3, s4, s5) =>
      bif (decide (s3 < ((a0.Shoals).length : Int))) then
        (idx? (a0.Shoals) (s3)).bind fun x9 =>
        bif (x9.Place != a1) then
          some (.inl ((wr (s3 + 1)), s4, s5))
        else
          (F_thalwegref01_Floor ((wr (x9.Grow.Low * (minmax true 0 (wr (a2 - x9.Sounded))))), 24)).bind fun y10 =>
          (F_thalwegref01_Ceil ((wr (x9.Grow.High * (minmax true 0 (wr (a2 - x9.Sounded))))), 24)).bind fun y11 =>
          some (.inl ((wr (s3 + 1)), (minmax true s4 (wr (x9.Bed.Low + y10))), (minmax true s5 (wr (x9.Bed.High + y11)))))
      else
        some (.inr (s4, s5))
  at_ := fun s gh => match s, gh with
    | (s3, s4, s5), () => ⟨[(1, (V.v (.int .i64 (a1)))), (2, (V.v (.int .i64 (a2)))), (3, (V.box 0 0)), (6, (V.box 1 0)), (7, (V.box 10 0)), (8, (V.v (.int .i64 (s3))))], [(0, Bx.var [(V.sl (recs eTReach (a0.Reaches)) (a0.Reaches).length), (V.sl (recs eTShoal (a0.Shoals)) (a0.Shoals).length)] false), (1, Bx.var [(V.v (.int .i64 (0))), (V.v (.int .i64 (0)))] false), (10, Bx.var [(V.v (.int .i64 (s4))), (V.v (.int .i64 (s5)))] false)], 11⟩
noncomputable def F_thalwegref01_Bed : (TRiver × Int × Int) → Option (TBounds) := fun x => match x with
  | (a0, a1, a2) =>
    (F_thalwegref01_Of (a0, a1)).bind fun y1 =>
    (idx? (a0.Reaches) (y1)).bind fun x2 =>
    (loopC (L_thalwegref01_Bed_1 a1 a2 a0).step (0, x2.Bottom.Low, x2.Bottom.High)).bind fun e => match e with
    | (s12, s13) =>
      some (⟨s12, s13⟩ : TBounds)

noncomputable def F_thalwegref01_Depth : (TRiver × (List (List TBounds)) × Int × Int) → Option (TBounds) := fun x => match x with
  | (a0, a1, a2, a3) =>
    (F_thalwegref01_Of (a0, a2)).bind fun y1 =>
    (idx? (a0.Reaches) (y1)).bind fun x2 =>
    (F_thalwegref01_Flow (a0, a1, y1, a3)).bind fun y3 =>
    (F_thalwegref01_Level (x2, y3)).bind fun y4 =>
    (F_thalwegref01_Bed (a0, a2, a3)).bind fun y5 =>
    some (⟨(minmax true 0 (wr (y4.Low - y5.High))), (minmax true 0 (wr (y4.High - y5.Low)))⟩ : TBounds)

noncomputable def L_thalwegref01_Shallowest_1 (a1 : List (List TBounds)) (a2 : List TPass) (s2 : Int) (a0 : TRiver) (s4 : Int) : LoopD (Int × Int × Int × Int × Int) ((Int × Int × Int × Int)) (Unit) where
  step := fun s => match s with
    | (s23, s24, s25, s26, s27) =>
      (idx? (a2) (s2)).bind fun x31 =>
      bif (decide (s26 ≤ x31.Hours.High)) then
        (idx? (a2) (s2)).bind fun x32 =>
        (F_thalwegref01_Depth (a0, a1, x32.Place, s26)).bind fun y33 =>
        bif (decide (y33.Low < s27)) then
          some (.inl (s2, s26, (minmax true s25 y33.High), (wr (s26 + 1)), y33.Low))
        else
          some (.inl (s23, s24, (minmax true s25 y33.High), (wr (s26 + 1)), s27))
      else
        some (.inr (s23, s24, s25, s27))
  at_ := fun s gh => match s, gh with
    | (s23, s24, s25, s26, s27), () => ⟨[(1, (V.sl (recs (eS eTBounds) (a1)) (a1).length)), (2, (V.sl (recs eTPass (a2)) (a2).length)), (3, (V.box 0 0)), (6, (V.box 1 0)), (7, (V.v (.int .i64 (0)))), (8, (V.v (.int .i64 (0)))), (9, (V.box 5 0)), (10, (V.v (.int .i64 (s23)))), (11, (V.v (.int .i64 (s24)))), (12, (V.v (.int .i64 (s2)))), (13, (V.v (.int .i64 (s25)))), (14, (V.v (.int .i64 (s26))))], [(0, Bx.var [(V.sl (recs eTReach (a0.Reaches)) (a0.Reaches).length), (V.sl (recs eTShoal (a0.Shoals)) (a0.Shoals).length)] false), (1, Bx.var [(V.v (.int .i64 (0))), (V.v (.int .i64 (0)))] false), (5, Bx.var [(V.v (.int .i64 (s27))), (V.v (.int .i64 (s4)))] false)], 6⟩
noncomputable def L_thalwegref01_Shallowest_2 (a1 : List (List TBounds)) (a2 : List TPass) (a0 : TRiver) : LoopD (Int × Int × Int × Int × Int) ((Int × Int × Int × Int)) (Unit) where
  step := fun s => match s with
    | (s1, s2, s3, s4, s5) =>
      bif (decide (s2 < ((a2).length : Int))) then
        (idx? (a2) (s2)).bind fun x22 =>
        (loopC (L_thalwegref01_Shallowest_1 a1 a2 s2 a0 s4).step (s5, s1, 0, x22.Hours.Low, s3)).bind fun e => match e with
        | (s34, s35, s36, s37) =>
          some (.inl (s35, (wr (s2 + 1)), s37, (minmax false s4 s36), s34))
      else
        some (.inr (s5, s1, s3, s4))
  at_ := fun s gh => match s, gh with
    | (s1, s2, s3, s4, s5), () => ⟨[(1, (V.sl (recs (eS eTBounds) (a1)) (a1).length)), (2, (V.sl (recs eTPass (a2)) (a2).length)), (3, (V.box 0 0)), (6, (V.box 1 0)), (7, (V.v (.int .i64 (0)))), (8, (V.v (.int .i64 (0)))), (9, (V.box 5 0)), (10, (V.v (.int .i64 (s5)))), (11, (V.v (.int .i64 (s1)))), (12, (V.v (.int .i64 (s2))))], [(0, Bx.var [(V.sl (recs eTReach (a0.Reaches)) (a0.Reaches).length), (V.sl (recs eTShoal (a0.Shoals)) (a0.Shoals).length)] false), (1, Bx.var [(V.v (.int .i64 (0))), (V.v (.int .i64 (0)))] false), (5, Bx.var [(V.v (.int .i64 (s3))), (V.v (.int .i64 (s4)))] false)], 6⟩
noncomputable def F_thalwegref01_Shallowest : (TRiver × (List (List TBounds)) × (List TPass)) → Option (TBounds × Int × Int) := fun x => match x with
  | (a0, a1, a2) =>
    (loopC (L_thalwegref01_Shallowest_2 a1 a2 a0).step (0, 0, 1000000, 1000000, 0)).bind fun e => match e with
    | (s38, s39, s40, s41) =>
      some ((⟨s40, s41⟩ : TBounds), s38, s39)

noncomputable def F_thalwegref02_Fits : (THullFloat × TPassage) → Option (Bool × Bool) := fun x => match x with
  | (a0, a1) =>
    (F_thalwegref01_Shallowest (a1.River, a1.Sides, a1.Way)).bind fun y1 =>
    some ((decide ((wr (a0.Deep.High + a1.Keel)) ≤ y1.1.Low)), (decide ((wr (a0.Deep.Low + a1.Keel)) ≤ y1.1.High)))

noncomputable def F_thalweglaw02_shallowest : (TPassage) → Option (TBounds × Int × Int) := fun x => match x with
  | (a0) =>
    (F_thalwegref01_Shallowest (a0.River, a0.Sides, a0.Way)).bind fun y1 =>
    some (y1.1, y1.2.1, y1.2.2)

noncomputable def L_thalwegref02_Later_1 (s1 : Int) (a0 : THullFloat) (a1 : TPassage) : LoopD (Int × (List TPass)) (((List TPass)) ⊕ Int) (Unit) where
  step := fun s => match s with
    | (s13, s14) =>
      bif (decide (s13 < ((a1.Way).length : Int))) then
        (idx? (a1.Way) (s13)).bind fun x18 =>
        (idx? (a1.Sides) (0)).bind fun x19 =>
        bif (decide ((wr (x18.Hours.High + s1)) ≥ ((x19).length : Int))) then
          some (.inr (.inr (-1)))
        else
          (app? (s14) (([(⟨x18.Place, (⟨(wr (x18.Hours.Low + s1)), (wr (x18.Hours.High + s1))⟩ : TBounds)⟩ : TPass)] : List TPass)) 24).bind fun l20 =>
          some (.inl ((wr (s13 + 1)), l20))
      else
        some (.inr (.inl s14))
  at_ := fun s gh => match s, gh with
    | (s13, s14), () => ⟨[(2, (V.box 0 0)), (3, (V.box 1 0)), (4, (V.v (.int .i64 (0)))), (5, (V.v (.int .i64 (s1)))), (6, (V.box 3 0)), (7, (V.v (.int .i64 (s13))))], [(0, Bx.var [(V.v (.int .i64 (a0.Mean.Low))), (V.v (.int .i64 (a0.Mean.High))), (V.v (.int .i64 (a0.Deep.Low))), (V.v (.int .i64 (a0.Deep.High))), (V.v (.int .i64 (a0.Head)))] false), (1, Bx.var [(V.sl (recs eTReach (a1.River.Reaches)) (a1.River.Reaches).length), (V.sl (recs eTShoal (a1.River.Shoals)) (a1.River.Shoals).length), (V.sl (recs (eS eTBounds) (a1.Sides)) (a1.Sides).length), (V.sl (recs eTPass (a1.Way)) (a1.Way).length), (V.v (.int .i64 (a1.Keel)))] false), (3, Bx.var [(V.sl (recs eTReach (a1.River.Reaches)) (a1.River.Reaches).length), (V.sl (recs eTShoal (a1.River.Shoals)) (a1.River.Shoals).length), (V.sl (recs (eS eTBounds) (a1.Sides)) (a1.Sides).length), (V.osl 4 (s14).length), (V.v (.int .i64 (a1.Keel)))] false), (4, Bx.row 50 3 (recs eTPass (s14)) 0)], 5⟩
noncomputable def L_thalwegref02_Later_2 (a0 : THullFloat) (a1 : TPassage) : LoopD (Int) (Int) (Unit) where
  step := fun s => match s with
    | s1 =>
      (loopC (L_thalwegref02_Later_1 s1 a0 a1).step (0, ([] : List TPass))).bind fun e => match e with
      | (.inl s21) =>
        (F_thalwegref02_Fits (a0, (⟨a1.River, a1.Sides, s21, a1.Keel⟩ : TPassage))).bind fun y22 =>
        bif y22.1 then
          some (.inr s1)
        else
          some (.inl (wr (s1 + 1)))
      | (.inr r23) =>
        some (.inr r23)
  at_ := fun s gh => match s, gh with
    | s1, () => ⟨[(2, (V.box 0 0)), (3, (V.box 1 0)), (4, (V.v (.int .i64 (0)))), (5, (V.v (.int .i64 (s1))))], [(0, Bx.var [(V.v (.int .i64 (a0.Mean.Low))), (V.v (.int .i64 (a0.Mean.High))), (V.v (.int .i64 (a0.Deep.Low))), (V.v (.int .i64 (a0.Deep.High))), (V.v (.int .i64 (a0.Head)))] false), (1, Bx.var [(V.sl (recs eTReach (a1.River.Reaches)) (a1.River.Reaches).length), (V.sl (recs eTShoal (a1.River.Shoals)) (a1.River.Shoals).length), (V.sl (recs (eS eTBounds) (a1.Sides)) (a1.Sides).length), (V.sl (recs eTPass (a1.Way)) (a1.Way).length), (V.v (.int .i64 (a1.Keel)))] false)], 2⟩
noncomputable def F_thalwegref02_Later : (THullFloat × TPassage) → Option (Int) := fun x => match x with
  | (a0, a1) =>
    (loopC (L_thalwegref02_Later_2 a0 a1).step 0).bind fun e => match e with
    | r24 =>
      some r24

noncomputable def L_thalweglaw02_HullSafes_1 (y9 : Bool × Bool × Int × Int × Int) (y12 : Int × Int) (a0 : Tthalweglaw02_Loaded) (a1 : TPassage) (y6 : TPassage) : LoopD (Int) (Unit ⊕ Bool) (Unit) where
  step := fun s => match s with
    | s13 =>
      bif (decide (s13 < ((a1.Way).length : Int))) then
        (idx? (y6.Way) (s13)).bind fun x16 =>
        (idx? (a1.Way) (s13)).bind fun x17 =>
        bif (!(x16.Place == x17.Place && (x16.Hours.Low == x17.Hours.Low && (x16.Hours.High == x17.Hours.High && true)))) then
          some (.inr (.inr false))
        else
          some (.inl (wr (s13 + 1)))
      else
        some (.inr (.inl ()))
  at_ := fun s gh => match s, gh with
    | s13, () => ⟨[(2, (V.box 0 0)), (3, (V.box 1 0)), (4, (V.v (.bool (false)))), (5, (V.box 18 0)), (6, (V.v (.bool (y9.1)))), (7, (V.v (.bool (y9.2.1)))), (8, (V.v (.int .i64 (y9.2.2.1)))), (9, (V.v (.int .i64 (y9.2.2.2.1)))), (10, (V.v (.int .i64 (y9.2.2.2.2)))), (11, (V.v (.int .i64 (y12.1)))), (12, (V.v (.int .i64 (y12.2)))), (13, (V.v (.int .i64 (s13))))], [(0, Bx.var [(V.v (.int .i64 (a0.Hull.Lot))), (V.sl (recs eTHullSection (a0.Hull.Sections)) (a0.Hull.Sections).length), (V.sl (recs (eI .i64) (a0.Load)) (a0.Load).length), (V.v (.int .i64 (a0.Density.Low))), (V.v (.int .i64 (a0.Density.High)))] false), (1, Bx.var [(V.sl (recs eTReach (a1.River.Reaches)) (a1.River.Reaches).length), (V.sl (recs eTShoal (a1.River.Shoals)) (a1.River.Shoals).length), (V.sl (recs (eS eTBounds) (a1.Sides)) (a1.Sides).length), (V.sl (recs eTPass (a1.Way)) (a1.Way).length), (V.v (.int .i64 (a1.Keel)))] false), (18, Bx.var [(V.sl (recs eTReach (y6.River.Reaches)) (y6.River.Reaches).length), (V.sl (recs eTShoal (y6.River.Shoals)) (y6.River.Shoals).length), (V.sl (recs (eS eTBounds) (y6.Sides)) (y6.Sides).length), (V.sl (recs eTPass (y6.Way)) (y6.Way).length), (V.v (.int .i64 (y6.Keel)))] false)], 19⟩
noncomputable def F_thalweglaw02_HullSafes : (Tthalweglaw02_Loaded × TPassage) → Option (Bool) := fun x => match x with
  | (a0, a1) =>
    (F_thalweglaw02_great (a0.Hull)).bind fun y1 =>
    bif y1 then
      (F_thalweglaw02_known ()).bind fun y2 =>
      some y2
    else
      bif (decide (((a0.Load).length : Int) > 20)) then
        (F_thalweglaw02_known ()).bind fun y3 =>
        some y3
      else
        (F_thalweglaw02_wide (a1)).bind fun y4 =>
        bif y4 then
          (F_thalweglaw02_known ()).bind fun y5 =>
          some y5
        else
          (F_thalweglaw02_way (a1)).bind fun y6 =>
          (F_thalweglaw02_own (a0.Hull)).bind fun y7 =>
          (F_thalweglaw02_numbers (a0.Load)).bind fun y8 =>
          (F_hull_Safe (y7, y8, a0.Density, y6)).bind fun y9 =>
          (F_thalweglaw02_own (a0.Hull)).bind fun y10 =>
          (F_thalweglaw02_numbers (a0.Load)).bind fun y11 =>
          (F_hull_Later (y10, y11, a0.Density, y6)).bind fun y12 =>
          (loopC (L_thalweglaw02_HullSafes_1 y9 y12 a0 a1 y6).step 0).bind fun e => match e with
          | (.inl ()) =>
            (F_thalweglaw02_start (a0, a1)).bind fun y18 =>
            bif (y18.2 != 0) then
              bif (y9.2.2.2.2 == y18.2) then
                bif (y12.2 == y18.2) then
                  bif (!y9.1) then
                    bif (!y9.2.1) then
                      bif (y9.2.2.1 == 0) then
                        bif (y9.2.2.2.1 == 0) then
                          bif (y12.1 == 0) then
                            (F_thalweglaw02_known ()).bind fun y19 =>
                            some y19
                          else
                            some false
                        else
                          some false
                      else
                        some false
                    else
                      some false
                  else
                    some false
                else
                  some false
              else
                some false
            else
              (F_thalwegref02_Fits (y18.1, a1)).bind fun y20 =>
              bif (y9.2.2.2.2 != 0) then
                some false
              else
                bif (!(y9.1 == y20.1)) then
                  some false
                else
                  bif (!(y9.2.1 == y20.2)) then
                    some false
                  else
                    (F_thalweglaw02_shallowest (a1)).bind fun y21 =>
                    bif (y9.2.2.1 != y21.2.1) then
                      some false
                    else
                      bif (y9.2.2.2.1 != y21.2.2) then
                        some false
                      else
                        (F_thalwegref02_Later (y18.1, a1)).bind fun y22 =>
                        bif (decide (y22 ≥ 0)) then
                          bif (y12.2 == 0) then
                            bif (y12.1 == y22) then
                              (F_thalweglaw02_known ()).bind fun y23 =>
                              some y23
                            else
                              some false
                          else
                            some false
                        else
                          bif (y12.2 == 7) then
                            bif (y12.1 == 0) then
                              (F_thalweglaw02_known ()).bind fun y24 =>
                              some y24
                            else
                              some false
                          else
                            some false
          | (.inr r25) =>
            some r25
end Go.Ev
