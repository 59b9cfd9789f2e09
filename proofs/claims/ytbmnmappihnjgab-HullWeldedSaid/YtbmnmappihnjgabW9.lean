/- A part of the proof of HullWelded. -/
import Derived.Test.YtbmnmappihnjgabW8
/- What the arguments of the law are: those of another one. -/
/- What the functions do over typed data. -/
set_option linter.unusedVariables false
set_option linter.unusedSimpArgs false
namespace Go.Ev
open Go.Proofs
set_option maxHeartbeats 8000000
set_option maxRecDepth 100000
noncomputable def F_slices_Clone_L_HullRow_HullRow : (List THullRow) → Option (List THullRow) := fun l => (app? ([] : List THullRow) l 16).bind fun r => some r


noncomputable def F_slices_Clone_L_HullHold_HullHold : (List THullHold) → Option (List THullHold) := fun l => (app? ([] : List THullHold) l 16).bind fun r => some r


noncomputable def L_hull_build_1 (a1 : List THullSection) (a0 : Int) : LoopD (Int × (List THullSection)) (((List THullSection))) (Unit) where
  step := fun s => match s with
    | (s1, s2) =>
      bif (decide (s1 < ((a1).length : Int))) then
        (idx? (a1) (s1)).bind fun x7 =>
        (F_slices_Clone_L_HullRow_HullRow (x7.Curve)).bind fun y8 =>
        (F_slices_Clone_L_HullHold_HullHold (x7.Holds)).bind fun y9 =>
        (app? (s2) (([(⟨x7.Length, x7.Light, x7.Trim, y8, y9⟩ : THullSection)] : List THullSection)) 72).bind fun l10 =>
        some (.inl ((wr (s1 + 1)), l10))
      else
        some (.inr s2)
  at_ := fun s gh => match s, gh with
    | (s1, s2), () => ⟨[(4, (V.box 0 0)), (5, (V.box 3 0)), (10, (V.sl (recs eTHullSection (a1)) (a1).length)), (11, (V.v (.int .i64 (((a1).length : Int))))), (12, (V.v (.int .i64 (s1))))], [(0, Bx.var [(V.v (.int .i64 (0))), (V.v (.slice none 0 0))] false), (3, Bx.var [(V.v (.int .i64 (a0))), (V.osl 4 (s2).length)] false), (4, Bx.row 55 5 (recs eTHullSection (s2)) 0)], 5⟩
noncomputable def F_hull_build : (Int × (List THullSection)) → Option (THull) := fun x => match x with
  | (a0, a1) =>
    (loopC (L_hull_build_1 a1 a0).step (0, ([] : List THullSection))).bind fun e => match e with
    | s11 =>
      some (⟨a0, s11⟩ : THull)

noncomputable def F_slices_Grow_L_HullSection_HullSection : (List THullSection × Int) → Option (List THullSection) := fun x => if x.1.length = 0 ∧ 0 ≤ x.2 ∧ x.2 * 72 ≤ 140737488355328 then some [] else none


noncomputable def L_slices_Concat_L_HullSection_HullSection_1 (a0 : List (List THullSection)) : LoopD (Int × Int) (Int) (Unit) where
  step := fun s => match s with
    | (s1, s2) =>
      bif (decide (s2 < ((a0).length : Int))) then
        (idx? (a0) (s2)).bind fun x4 =>
        bif (decide ((wr (s1 + ((x4).length : Int))) < 0)) then
          none
        else
          some (.inl ((wr (s1 + ((x4).length : Int))), (wr (s2 + 1))))
      else
        some (.inr s1)
  at_ := fun s gh => match s, gh with
    | (s1, s2), () => ⟨[(0, (V.sl (recs (eS eTHullSection) (a0)) (a0).length)), (2, (V.v (.slice none 0 0))), (3, (V.v (.int .i64 (s1)))), (9, (V.sl (recs (eS eTHullSection) (a0)) (a0).length)), (10, (V.v (.int .i64 (((a0).length : Int))))), (11, (V.v (.int .i64 (s2))))], [], 0⟩
noncomputable def L_slices_Concat_L_HullSection_HullSection_2 (a0 : List (List THullSection)) : LoopD (Int × (List THullSection)) (((List THullSection))) (Unit) where
  step := fun s => match s with
    | (s7, s8) =>
      bif (decide (s7 < ((a0).length : Int))) then
        (idx? (a0) (s7)).bind fun x11 =>
        (app? (s8) (x11) 72).bind fun l12 =>
        some (.inl ((wr (s7 + 1)), l12))
      else
        some (.inr s8)
  at_ := fun s gh => match s, gh with
    | (s7, s8), () => ⟨[(2, (V.v (.slice none 0 0))), (6, (V.osl 2 (s8).length)), (25, (V.sl (recs (eS eTHullSection) (a0)) (a0).length)), (26, (V.v (.int .i64 (((a0).length : Int))))), (27, (V.v (.int .i64 (s7))))], [(2, Bx.row 55 5 (recs eTHullSection (s8)) 0)], 3⟩
noncomputable def F_slices_Concat_L_HullSection_HullSection : ((List (List THullSection))) → Option (List THullSection) := fun x => match x with
  | (a0) =>
    (loopC (L_slices_Concat_L_HullSection_HullSection_1 a0).step (0, 0)).bind fun e => match e with
    | s5 =>
      (F_slices_Grow_L_HullSection_HullSection (([] : List THullSection), s5)).bind fun y6 =>
      (loopC (L_slices_Concat_L_HullSection_HullSection_2 a0).step (0, y6)).bind fun e => match e with
      | s13 =>
        some s13

noncomputable def F_hull_Cut : (THull × Int × Int) → Option (THull × Int) := fun x => match x with
  | (a0, a1, a2) =>
    (F_hull_Check (a0)).bind fun y1 =>
    bif (y1 != 0) then
      some ((⟨0, ([] : List THullSection)⟩ : THull), y1)
    else
      (F_numbers_Within (0, ((a0.Sections).length : Int), ([a1, a2] : List Int))).bind fun y2 =>
      bif (!y2) then
        some ((⟨0, ([] : List THullSection)⟩ : THull), 3)
      else
        bif (decide (a1 ≥ a2)) then
          some ((⟨0, ([] : List THullSection)⟩ : THull), 3)
        else
          bif ((wr (a2 - a1)) == ((a0.Sections).length : Int)) then
            some ((⟨0, ([] : List THullSection)⟩ : THull), 4)
          else
            (slc? (a0.Sections) (0) (a1)).bind fun l3 =>
            (slc? (a0.Sections) (a2) (((a0.Sections).length : Int))).bind fun l4 =>
            (F_slices_Concat_L_HullSection_HullSection (([l3, l4] : List (List THullSection)))).bind fun y5 =>
            (F_hull_build (a0.Lot, y5)).bind fun y6 =>
            some (y6, 0)

noncomputable def F_hull_Weld : (THull × THull) → Option (THull × Int) := fun x => match x with
  | (a0, a1) =>
    (F_hull_Check (a0)).bind fun y1 =>
    bif (y1 != 0) then
      some ((⟨0, ([] : List THullSection)⟩ : THull), y1)
    else
      (F_hull_Check (a1)).bind fun y2 =>
      bif (y2 != 0) then
        some ((⟨0, ([] : List THullSection)⟩ : THull), y2)
      else
        bif (a0.Lot != a1.Lot) then
          some ((⟨0, ([] : List THullSection)⟩ : THull), 9)
        else
          (F_slices_Concat_L_HullSection_HullSection (([a0.Sections, a1.Sections] : List (List THullSection)))).bind fun y3 =>
          (F_hull_build (a0.Lot, y3)).bind fun y4 =>
          (F_hull_Check (y4)).bind fun y5 =>
          bif (y5 != 0) then
            some ((⟨0, ([] : List THullSection)⟩ : THull), 8)
          else
            some (y4, 0)

noncomputable def L_thalweglaw02_same_1 (s1 : Int) (a0 : THull) (a1 : THull) (x17 : THullSection) (x16 : THullSection) : LoopD (Int) (Unit ⊕ Bool) (Unit) where
  step := fun s => match s with
    | s18 =>
      bif (decide (s18 < ((x16.Curve).length : Int))) then
        (idx? (x16.Curve) (s18)).bind fun x21 =>
        (idx? (x17.Curve) (s18)).bind fun x22 =>
        bif (!(x21.Draft == x22.Draft && (x21.Volume == x22.Volume && true))) then
          some (.inr (.inr false))
        else
          some (.inl (wr (s18 + 1)))
      else
        some (.inr (.inl ()))
  at_ := fun s gh => match s, gh with
    | s18, () => ⟨[(2, (V.box 0 0)), (3, (V.box 1 0)), (4, (V.v (.bool (false)))), (5, (V.v (.int .i64 (s1)))), (6, (V.box 17 0)), (7, (V.box 18 0)), (8, (V.v (.int .i64 (s18))))], [(0, Bx.var [(V.v (.int .i64 (a0.Lot))), (V.sl (recs eTHullSection (a0.Sections)) (a0.Sections).length)] false), (1, Bx.var [(V.v (.int .i64 (a1.Lot))), (V.sl (recs eTHullSection (a1.Sections)) (a1.Sections).length)] false), (17, Bx.var [(V.v (.int .i64 (x16.Length))), (V.v (.int .i64 (x16.Light))), (V.v (.int .i64 (x16.Trim))), (V.sl (recs eTHullRow (x16.Curve)) (x16.Curve).length), (V.sl (recs eTHullHold (x16.Holds)) (x16.Holds).length)] false), (18, Bx.var [(V.v (.int .i64 (x17.Length))), (V.v (.int .i64 (x17.Light))), (V.v (.int .i64 (x17.Trim))), (V.sl (recs eTHullRow (x17.Curve)) (x17.Curve).length), (V.sl (recs eTHullHold (x17.Holds)) (x17.Holds).length)] false)], 19⟩
noncomputable def L_thalweglaw02_same_2 (s1 : Int) (a0 : THull) (a1 : THull) (x17 : THullSection) (x16 : THullSection) : LoopD (Int) (Unit ⊕ Bool) (Unit) where
  step := fun s => match s with
    | s23 =>
      bif (decide (s23 < ((x16.Holds).length : Int))) then
        (idx? (x16.Holds) (s23)).bind fun x26 =>
        (idx? (x17.Holds) (s23)).bind fun x27 =>
        bif (!(x26.At == x27.At && (x26.Lots == x27.Lots && true))) then
          some (.inr (.inr false))
        else
          some (.inl (wr (s23 + 1)))
      else
        some (.inr (.inl ()))
  at_ := fun s gh => match s, gh with
    | s23, () => ⟨[(2, (V.box 0 0)), (3, (V.box 1 0)), (4, (V.v (.bool (false)))), (5, (V.v (.int .i64 (s1)))), (6, (V.box 17 0)), (7, (V.box 18 0)), (9, (V.v (.int .i64 (s23))))], [(0, Bx.var [(V.v (.int .i64 (a0.Lot))), (V.sl (recs eTHullSection (a0.Sections)) (a0.Sections).length)] false), (1, Bx.var [(V.v (.int .i64 (a1.Lot))), (V.sl (recs eTHullSection (a1.Sections)) (a1.Sections).length)] false), (17, Bx.var [(V.v (.int .i64 (x16.Length))), (V.v (.int .i64 (x16.Light))), (V.v (.int .i64 (x16.Trim))), (V.sl (recs eTHullRow (x16.Curve)) (x16.Curve).length), (V.sl (recs eTHullHold (x16.Holds)) (x16.Holds).length)] false), (18, Bx.var [(V.v (.int .i64 (x17.Length))), (V.v (.int .i64 (x17.Light))), (V.v (.int .i64 (x17.Trim))), (V.sl (recs eTHullRow (x17.Curve)) (x17.Curve).length), (V.sl (recs eTHullHold (x17.Holds)) (x17.Holds).length)] false)], 19⟩
noncomputable def L_thalweglaw02_same_3 (a0 : THull) (a1 : THull) : LoopD (Int) (Unit ⊕ Bool) (Unit) where
  step := fun s => match s with
    | s1 =>
      bif (decide (s1 < ((a0.Sections).length : Int))) then
        (idx? (a0.Sections) (s1)).bind fun x16 =>
        (idx? (a1.Sections) (s1)).bind fun x17 =>
        bif (x16.Length != x17.Length) then
          some (.inr (.inr false))
        else
          bif (x16.Light != x17.Light) then
            some (.inr (.inr false))
          else
            bif (x16.Trim != x17.Trim) then
              some (.inr (.inr false))
            else
              bif (((x16.Curve).length : Int) != ((x17.Curve).length : Int)) then
                some (.inr (.inr false))
              else
                bif (((x16.Holds).length : Int) != ((x17.Holds).length : Int)) then
                  some (.inr (.inr false))
                else
                  (loopC (L_thalweglaw02_same_1 s1 a0 a1 x17 x16).step 0).bind fun e => match e with
                  | (.inl ()) =>
                    (loopC (L_thalweglaw02_same_2 s1 a0 a1 x17 x16).step 0).bind fun e => match e with
                    | (.inl ()) =>
                      some (.inl (wr (s1 + 1)))
                    | (.inr r28) =>
                      some (.inr (.inr r28))
                  | (.inr r29) =>
                    some (.inr (.inr r29))
      else
        some (.inr (.inl ()))
  at_ := fun s gh => match s, gh with
    | s1, () => ⟨[(2, (V.box 0 0)), (3, (V.box 1 0)), (4, (V.v (.bool (false)))), (5, (V.v (.int .i64 (s1))))], [(0, Bx.var [(V.v (.int .i64 (a0.Lot))), (V.sl (recs eTHullSection (a0.Sections)) (a0.Sections).length)] false), (1, Bx.var [(V.v (.int .i64 (a1.Lot))), (V.sl (recs eTHullSection (a1.Sections)) (a1.Sections).length)] false)], 2⟩
noncomputable def F_thalweglaw02_same : (THull × THull) → Option (Bool) := fun x => match x with
  | (a0, a1) =>
    bif (a0.Lot != a1.Lot) then
      some false
    else
      bif (((a0.Sections).length : Int) != ((a1.Sections).length : Int)) then
        some false
      else
        (loopC (L_thalweglaw02_same_3 a0 a1).step 0).bind fun e => match e with
        | (.inl ()) =>
          some true
        | (.inr r30) =>
          some r30

noncomputable def F_thalweglaw02_HullWelded : (Tthalweglaw02_Small × Int × Int) → Option (Bool) := fun x => match x with
  | (a0, a1, a2) =>
    (F_thalweglaw02_Small_hull (a0, 4)).bind fun y1 =>
    bif (decide (((y1.Sections).length : Int) < 2)) then
      (F_thalweglaw02_own (y1)).bind fun y2 =>
      (F_hull_Cut (y2, 0, 1)).bind fun y3 =>
      bif (y3.2 == 4) then
        (F_thalweglaw02_known ()).bind fun y4 =>
        some y4
      else
        some false
    else
      (nz? ((wr (((y1.Sections).length : Int) - 1)))).bind fun _ =>
      (F_thalweglaw02_own (y1)).bind fun y5 =>
      (F_hull_Cut (y5, (wr (1 + (Int.tmod (wr (a1)) (wr (((y1.Sections).length : Int) - 1))))), ((y1.Sections).length : Int))).bind fun y6 =>
      (F_thalweglaw02_own (y1)).bind fun y7 =>
      (F_hull_Cut (y7, 0, (wr (1 + (Int.tmod (wr (a1)) (wr (((y1.Sections).length : Int) - 1))))))).bind fun y8 =>
      (F_thalweglaw02_own (y6.1)).bind fun y9 =>
      (F_thalweglaw02_own (y8.1)).bind fun y10 =>
      (F_hull_Weld (y9, y10)).bind fun y11 =>
      bif (y6.2 != 0) then
        some false
      else
        bif (y8.2 != 0) then
          some false
        else
          bif (y11.2 != 0) then
            some false
          else
            (F_thalweglaw02_same (y11.1, y1)).bind fun y12 =>
            bif (!y12) then
              some false
            else
              bif (((y6.1.Sections).length : Int) != (wr (1 + (Int.tmod (wr (a1)) (wr (((y1.Sections).length : Int) - 1)))))) then
                some false
              else
                bif (((y8.1.Sections).length : Int) != (wr (((y1.Sections).length : Int) - (wr (1 + (Int.tmod (wr (a1)) (wr (((y1.Sections).length : Int) - 1)))))))) then
                  some false
                else
                  (F_hull_Volume (y6.1, (wr (2 * (wr (a2)))))).bind fun y13 =>
                  (F_hull_Volume (y8.1, (wr (2 * (wr (a2)))))).bind fun y14 =>
                  (F_hull_Volume (y11.1, (wr (2 * (wr (a2)))))).bind fun y15 =>
                  bif (y13.2 == 0) then
                    bif (y14.2 == 0) then
                      bif (y15.2 == 0) then
                        bif (y15.1 == (wr (y13.1 + y14.1))) then
                          (F_thalweglaw02_known ()).bind fun y16 =>
                          some y16
                        else
                          some false
                      else
                        some false
                    else
                      bif (y15.2 == 3) then
                        bif (y15.1 == 0) then
                          (F_thalweglaw02_known ()).bind fun y17 =>
                          some y17
                        else
                          some false
                      else
                        some false
                  else
                    bif (y15.2 == 3) then
                      bif (y15.1 == 0) then
                        (F_thalweglaw02_known ()).bind fun y18 =>
                        some y18
                      else
                        some false
                    else
                      some false
end Go.Ev
/- The evaluator over what is not known, in which calls may be followed inline; ranges over functions. -/
set_option linter.unusedVariables false
namespace Go.Ev
open Go.RowKit
noncomputable section

/-- A call that is followed: what is called, its arguments, the boxes, the first new number; what is asked of its result. -/
abbrev WH := V → List V → ST → Nat → (V → ST → Nat → Prop) → Prop

/-- A box that a renaming leaves as it is. -/
def fixX (r : List (Nat × Nat)) : Bx → Prop
  | .loop lp => lp.tm.map (fun p => renV r p.2) = lp.tm.map fun p => some p.2
  | .mark _ => True
  | _ => False

def SubW (r : List (Nat × Nat)) : ST → ST → Prop
  | [], _ => True
  | (b, x) :: l, st => ((∃ b' y, look r b = some b' ∧ renX r x = some y ∧ look st b' = some y) ∨ (decide (look r b = none) && virtB x) = true ∨ (∃ b' cs' cs f, x = .var cs' f ∧ look r b = some b' ∧ look st b' = some (.var cs f) ∧ SubC r cs' cs) ∨
      (look r b = some b ∧ look st b = some x ∧ fixX r x)) ∧ SubW r l st

/-- The state (tm', st', nx') says no more than (tm, st), its boxes renamed; those below pins, the marks and the record of the round are not renamed. -/
def SubF (pins : Nat) (ds : List Nat) (rd : Option Nat) (r : List (Nat × Nat)) (tm' : TM) (st' : ST) (nx' : Nat) (tm : TM) (st : ST) : Prop :=
  SubT r tm' tm ∧ SubW r st' st ∧ ((r.all (fun p => decide (p.1 < nx'))) && st'.all (fun p => decide (p.1 < nx'))) = true ∧ (decide (r.map (·.2)).Nodup && (List.range pins).all fun i => decide (look r i = some i)) = true ∧
    (ds.all fun i => decide (look r i = some i)) = true ∧ (rd.toList.all fun i => decide (look r i = some i)) = true

section
variable (P : Program) (C : FuncId → Option Con) (H : WH)

def wop (top : Nat) (tm : TM) (st : ST) (op : Op) (K : V → ST → Nat → Prop) : Prop := match op with
  | .call c => match c.callee with
    | .value f => match ev tm f with
      | .fn g caps => match C g with
        | some _ => (opR P C top (ev tm) (.call c)).go st fun v st' => K v st' (top + 1)
        | none => H (.fn g caps) (c.args.toList.map (ev tm)) st top K
      | .yld b => H (.yld b) (c.args.toList.map (ev tm)) st top K
      | _ => False
    | _ => (opA P top (ev tm) (.call c)).go st fun v st' => K v st' (top + 1)
  | op => (opA P top (ev tm) op).go st fun v st' => K v st' (top + 1)

def wops (sz : Nat) (all : List Oper) : List Oper → Nat → TM → ST → (TM → ST → Nat → Prop) → Prop
  | [], top, tm, st, K => K tm st top
  | o :: os, top, tm, st, K => match okDst sz o.dst with
    | false => False
    | true => match o.guard with
      | none => wop P C H top tm st o.op fun v st' top' => wops sz all os top' (putT tm o.dst v) st' K
      | some (j, want) => match (all[j]?).bind (·.dst) with
        | none => False
        | some d => match (look tm d).getD .top with
          | .v (.bool b) => match want with
            | true => br b (wop P C H top tm st o.op fun v st' top' => wops sz all os top' (putT tm o.dst v) st' K) (wops sz all os (top + 1) (putT tm o.dst vU) st K)
            | false => br b (wops sz all os (top + 1) (putT tm o.dst vU) st K) (wop P C H top tm st o.op fun v st' top' => wops sz all os top' (putT tm o.dst v) st' K)
          | .v (.tuple _) => wops sz all os (top + 1) (putT tm o.dst vU) st K
          | _ => False

/-- rd: in a round of this range over a function. -/
def wcode (sz pins : Nat) (rd : Option Nat) : Code → (AX → XS → Prop) → XS → Prop
  | .skip, Q, s => Q .normal s
  | .region _ ops false, Q, s => wops P C H sz ops.toList ops.toList s.nx s.tm s.st fun tm st nx => Q .normal ⟨tm, s.ds, st, nx, s.b0⟩
  | .region _ ops true, Q, s => match aheadB ops.toList with
    | true => evOpsD P C sz ops s.nx ops.toList 0 s.tm s.st [] fun tm st => Q .normal ⟨tm, s.ds, st, s.nx + ops.size, s.b0⟩
    | false => False
  | .seq a b, Q, s => wcode sz pins rd a (fun e s' => match e with
    | .normal => wcode sz pins rd b Q s'
    | e => Q e s') s
  | .cond c x y, Q, s => match ev s.tm c with
    | .v (.bool b) => br b (wcode sz pins rd x Q s) (wcode sz pins rd y Q s)
    | _ => False
  | .block id c, Q, s => wcode sz pins rd c (fun e s' => match e with
    | .exit j => match decide (j = id) with
      | true => Q .normal s'
      | false => Q (.exit j) s'
    | e => Q e s') s
  | .loop c, Q, s => ∃ (α : Type) (mk : α → LS) (μ : α → Nat), (∃ x r, SubF pins s.ds rd r (mk x).tm (mk x).st (mk x).nx s.tm s.st) ∧ ∀ x, wcode sz pins rd c (fun e s' => match e with
    | .normal => s'.ds = s.ds ∧ ∃ y r, SubF pins s.ds rd r (mk y).tm (mk y).st (mk y).nx s'.tm s'.st ∧ μ y < μ x
    | e => ∃ n, s'.nx ≤ n ∧ Q e ⟨s'.tm, s'.ds, s'.st, n, s'.b0⟩) ⟨(mk x).tm, s.ds, (mk x).st, (mk x).nx, s.b0⟩
  | .exit id, Q, s => Q (.exit id) s
  | .ret, Q, s => Q .ret s
  | .rangeFunc f ps assign body, Q, s => match xenter rd (.loop ⟨s.tm, sz, ps, assign, body, .ready, none⟩) s with
    | none => False
    | some s1 => match ev s.tm f with
      | .fn g caps => H (.fn g caps) [.yld s.nx] s1.st s1.nx fun _ st2 nx2 => match look st2 s.nx with
        | some (.loop r2) => match isBusy r2.state with
          | true => False
          | false => match r2.pending with
            | none => Q .normal ⟨s.tm, s1.ds, (s.nx, .loop { r2 with state := .exhausted }) :: st2, nx2, s.b0⟩
            | some (.exit i) => Q (.exit i) ⟨s.tm, s1.ds, (s.nx, .loop { r2 with state := .exhausted }) :: st2, nx2, s.b0⟩
            | some .ret => Q .ret ⟨s.tm, s1.ds, (s.nx, .loop { r2 with state := .exhausted }) :: st2, nx2, s.b0⟩
            | _ => False
        | _ => False
      | _ => False
  | _, _, _ => False

/-- The results: one as it is; several made clean. -/
def wres (fn : Func) (tm : TM) (st : ST) (K : V → ST → Prop) : Prop := match fn.results.toList with
  | [.tmp t] => K ((look tm t).getD .top) st
  | [.cell a t] => (opR P (fun _ => none) 0 (ev tm) (.load t (.tmp a))).go st K
  | l => (resR P tm l []).go st K

/-- A function is entered. -/
def wfn (fn : Func) (c : Code) (args : List V) (st : ST) (top : Nat) (K : V → ST → Nat → Prop) : Prop :=
  match Nat.ble args.length fn.ntmps with
  | false => False
  | true => wcode P C H fn.ntmps top none c (fun e s => match e with
    | .exit _ => False
    | _ => match xmarks s.ds s.st with
      | none => False
      | some st1 => wres P fn s.tm st1 fun r st2 => K r st2 s.nx) ⟨startT args, [], st, top, top⟩

/-- A round of a range over a function. -/
def wround (b : Nat) (args : List V) (st : ST) (top : Nat) (K : V → ST → Nat → Prop) : Prop := match look st b with
  | some (.loop r) => match isReady r.state with
    | true => match Nat.beq args.length r.ps.size && r.ps.toList.all fun p => Nat.ble (p + 1) r.sz with
      | false => False
      | true => wcode P C H r.sz top (some b) r.assign (fun e s1 => match e with
        | .normal => match look s1.st b with
          | some (.loop r1) => match isReady r1.state with
            | true => wcode P C H r.sz top (some b) r.body (fun e s2 => match look s2.st b with
              | some (.loop r2) => match e with
                | .normal => K (.v (.bool true)) ((b, .loop { r2 with state := .ready, pending := none }) :: s2.st) s2.nx
                | .exit i => K (.v (.bool false)) ((b, .loop { r2 with state := .done, pending := some (.exit i) }) :: s2.st) s2.nx
                | .ret => K (.v (.bool false)) ((b, .loop { r2 with state := .done, pending := some .ret }) :: s2.st) s2.nx
              | _ => False) ⟨s1.tm, s1.ds, (b, .loop { r1 with state := .busy }) :: s1.st, s1.nx, s1.b0⟩
            | false => False
          | _ => False
        | _ => False) ⟨(r.ps.toList.zip args).foldl (fun t p => p :: t) r.tm, [], st, top, top⟩
    | false => False
  | _ => False
end

/-- Calls, to a depth. -/
def wcall (P : Program) (C : FuncId → Option Con) (G : XG) : Nat → WH
  | 0 => fun _ _ _ _ _ => False
  | n + 1 => fun c avs st top K => match c with
    | .fn g caps => match G g with
      | some fn => match fn.body with
        | some code => wfn P C (wcall P C G n) fn code (avs ++ caps) st top K
        | none => False
      | none => False
    | .yld b => wround P C (wcall P C G n) b avs st top K
    | _ => False
end
end Go.Ev
/- The evaluator with inline calls is the model's: states, operations, regions. -/
set_option linter.unusedVariables false
set_option linter.unusedSimpArgs false
namespace Go.Ev
open Go.RowKit

theorem SubW.mem {r : List (Nat × Nat)} : ∀ {st' st : ST}, SubW r st' st → ∀ p ∈ st', (∃ b y, look r p.1 = some b ∧ renX r p.2 = some y ∧ look st b = some y) ∨ (decide (look r p.1 = none) && virtB p.2) = true ∨ (∃ b' cs' cs f, p.2 = .var cs' f ∧ look r p.1 = some b' ∧ look st b' = some (.var cs f) ∧ SubC r cs' cs) ∨
    (look r p.1 = some p.1 ∧ look st p.1 = some p.2 ∧ fixX r p.2)
  | [], _, _, p, hp => by cases hp
  | (i, v) :: l, tm, ⟨h1, h2⟩, p, hp => by
    rcases List.mem_cons.1 hp with rfl | hp
    · exact h1
    · exact SubW.mem h2 p hp

theorem map_eq_mem {α β : Type} {f g : α → β} : ∀ {l : List α}, l.map f = l.map g → ∀ x ∈ l, f x = g x
  | [], _, x, hx => by cases hx
  | y :: l, h, x, hx => by
    simp only [List.map_cons, List.cons.injEq] at h
    rcases List.mem_cons.1 hx with rfl | hx
    · exact h.1
    · exact map_eq_mem h.2 x hx

/-- A state that says less. -/
theorem Rel.subF {O : Nat → Prop} {w0 : World} {F0 : FZ} {M0 : MP} {D : List Deferred} {U : Nat → Prop} {F : FZ} {m : MP} {sz : Nat} {tm tm' : TM} {st st' : ST} {a : Act} {w : World} {r : List (Nat × Nat)} {nx' pins : Nat} {ds : List Nat} {rd : Option Nat}
    (h : Rel O w0 F0 M0 D U F m sz tm st a w) (hp : ∀ b y, M0 b = some y → b < pins) (hs : SubF pins ds rd r tm' st' nx' tm st) : Rel O w0 F0 M0 D (fun b => nx' ≤ b) F (fun b => (look r b).bind m) sz tm' st' a w := by
  obtain ⟨g1, g2, g3, g4, _⟩ := hs
  have h1 := g1.mem
  have h2 := g2.mem
  rw [Bool.and_eq_true] at g3
  have h3 : ∀ p ∈ r, p.1 < nx' := fun p hp => by simpa using List.all_eq_true.1 g3.1 p hp
  have h3' : ∀ p ∈ st', p.1 < nx' := fun p hp => by simpa using List.all_eq_true.1 g3.2 p hp
  have virt : ∀ {b : Nat} {x : Bx}, (decide (look r b = none) && virtB x) = true → look r b = none ∧ ∃ e size, x = .row e size [] 0 := by
    intro b x h
    rw [Bool.and_eq_true] at h
    refine ⟨of_decide_eq_true h.1, ?_⟩
    have h2 := h.2
    unfold virtB at h2
    split at h2
    · exact ⟨_, _, rfl⟩
    · cases h2
  rw [Bool.and_eq_true] at g4
  have h4 : (r.map (·.2)).Nodup := of_decide_eq_true g4.1
  have h5 : ∀ i, i < pins → look r i = some i := fun i hi => of_decide_eq_true (List.all_eq_true.1 g4.2 i (List.mem_range.2 hi))
  have hal : ∀ b, aliveB st' b → look r b ≠ none → ∃ b', look r b = some b' ∧ aliveB st b' := by
    rintro b ⟨x, hx, hd⟩ hnn
    obtain ⟨b', y, e1, e2, e3⟩ | hv | ⟨b', cs', cs, f, ex, e1, e3, hc⟩ | ⟨e1, e3, hfx⟩ := h2 _ (look_mem hx)
    rotate_left
    · exact absurd (virt hv).1 hnn
    · exact ⟨b', e1, _, e3, fun h => by cases h⟩
    · exact ⟨b, e1, _, e3, hd⟩
    refine ⟨b', e1, y, e3, ?_⟩
    rintro rfl
    simp only at e2
    cases x with
    | var cs f =>
      simp only [renX, Option.map_eq_some_iff] at e2
      obtain ⟨_, _, e4⟩ := e2
      cases e4
    | row e size cs p => cases e2
    | loop r => cases e2
    | mark p => cases e2
    | dead => exact hd rfl
  refine { htm := ?_, hsz := h.hsz, hde := h.hde, hst := ?_, inj := ?_, fresh := ?_, pin := fun b y e => by rw [h5 b (hp b y e)]; exact h.pin b y e, keep := h.keep, f0 := h.f0, f1 := h.f1, f2 := h.f2, mlt := ?_, below := h.below, hb := h.hb }
  · intro i
    cases hl : look tm' i with
    | none => exact trivial
    | some v =>
      simp only [Option.getD_some]
      rcases h1 _ (look_mem hl) with h1 | h1
      · exact renV_RV h1 (h.htm i)
      · have ht := h.htm i
        generalize (look tm i).getD .top = c at h1 ht
        simp only at h1
        unfold nilB at h1
        split at h1
        · exact .inr ⟨rfl, ht⟩
        · cases h1
  · intro b x hx
    obtain ⟨b', y, e1, e2, e3⟩ | hv | ⟨b', cs, cs', f, ex, e1, e3, hc⟩ | ⟨e1, e3, hfx⟩ := h2 _ (look_mem hx)
    rotate_left
    · obtain ⟨hr, e, size, rfl⟩ := virt hv
      simp only at hr
      exact .inr ⟨by simp [hr], rfl, rfl⟩
    · simp only at ex e1
      subst ex
      obtain ⟨g, c, arr, ty, q1, q2, q3, q4, q5, q6⟩ := h.hst b' _ e3
      obtain ⟨l1, l2⟩ := hc.get
      refine ⟨g, c, arr, ty, by simp [e1, q1], q2, q3, ⟨by rw [l1]; exact q4.1, fun i c x hc hx => ?_⟩, q5, fun hf j hj => q6 hf j (by omega)⟩
      obtain ⟨c', hc', hr⟩ := l2 i c hc
      refine ⟨?_, (q4.2 i c' x hc' hx).2⟩
      rcases hr with hr | hr
      · exact renV_RV hr (q4.2 i c' x hc' hx).1
      · exact nilB_RV hr (q4.2 i c' x hc' hx).1
    · simp only at e1 e3 hfx
      have hy := h.hst b x e3
      cases x with
      | loop lp =>
        obtain ⟨g, c, l, q1, q2, q3, q4, q5, q6, q7, q8, q9, q10, q11⟩ := hy
        refine ⟨g, c, l, by simp [e1, q1], q2, q3, q4, q5, q6, q7, q8, q9, q10, fun i => ?_⟩
        have hi := q11 i
        cases hl : look lp.tm i with
        | none => exact trivial
        | some v =>
          rw [hl] at hi
          exact renV_RV (map_eq_mem hfx _ (look_mem hl)) hi
      | mark p =>
        obtain ⟨g, c, q1, q⟩ := hy
        exact ⟨g, c, by simp [e1, q1], q⟩
      | _ => exact hfx.elim
    simp only at e1 e2
    have hy := h.hst b' y e3
    cases x with
    | var cs f =>
      simp only [renX, Option.map_eq_some_iff] at e2
      obtain ⟨cs', hm, rfl⟩ := e2
      obtain ⟨g, c, arr, ty, q1, q2, q3, q4, q5, q6⟩ := hy
      obtain ⟨l1, l2⟩ := mapM_get hm
      refine ⟨g, c, arr, ty, by simp [e1, q1], q2, q3, ⟨by rw [l1]; exact q4.1, fun i c x hc hx => ?_⟩, q5, fun hf j hj => q6 hf j (by omega)⟩
      obtain ⟨c', hc', hr⟩ := l2 i c hc
      exact ⟨renV_RV hr (q4.2 i c' x hc' hx).1, (q4.2 i c' x hc' hx).2⟩
    | row e size cs p =>
      simp only [renX, Option.some.injEq] at e2
      subst e2
      rcases hy with ⟨g, cap, cur, q1, q⟩ | ⟨q1, q⟩
      · exact .inl ⟨g, cap, cur, by simp [e1, q1], q⟩
      · exact .inr ⟨by simp [e1, q1], q⟩
    | loop r => cases e2
    | mark p => cases e2
    | dead => trivial
  · intro b b' g c c' ha ha' hm hm'
    obtain ⟨b1, e1, a1⟩ := hal b ha (fun e => by simp [e] at hm)
    obtain ⟨b2, e2, a2⟩ := hal b' ha' (fun e => by simp [e] at hm')
    rw [e1] at hm
    rw [e2] at hm'
    have := h.inj b1 b2 g c c' a1 a2 hm hm'
    subst this
    exact look_inj h4 e1 e2
  · intro b hb
    have hr : look r b = none := by
      cases hl : look r b with
      | none => rfl
      | some b' => have := h3 _ (look_mem hl); simp only at this; omega
    refine ⟨?_, by simp [hr]⟩
    cases hl : look st' b with
    | none => rfl
    | some x =>
      have := h3' _ (look_mem hl)
      simp only at this; omega
  · intro b g c hm
    simp only [Option.bind_eq_some_iff] at hm
    obtain ⟨b', _, hm⟩ := hm
    exact h.mlt b' g c hm

theorem marks_sub {m : MP} {r : List (Nat × Nat)} : ∀ {ds : List Nat} {D : List Deferred}, (ds.all fun i => decide (look r i = some i)) = true → MarksR m ds D → MarksR (fun b => (look r b).bind m) ds D
  | [], [], _, _ => trivial
  | b :: ds, d :: D, h, ⟨⟨g, c, h1, h2⟩, h3⟩ => by
    rw [List.all_cons, Bool.and_eq_true] at h
    have e := of_decide_eq_true h.1
    exact ⟨⟨g, c, by simp [e, h1], h2⟩, marks_sub h.2 h3⟩
  | [], _ :: _, _, h => h.elim
  | _ :: _, [], _, h => h.elim

theorem rd_sub {m : MP} {FF : Fence} {r : List (Nat × Nat)} : ∀ {rd : Option Nat}, (rd.toList.all fun i => decide (look r i = some i)) = true → RdOK m FF rd → RdOK (fun b => (look r b).bind m) FF rd
  | none, _, h => h
  | some b, hr, ⟨l, c, h1, h2⟩ => by
    have e : look r b = some b := by simpa using hr
    exact ⟨l, c, h1, by simp [e, h2]⟩

section
variable {P : Program} {C : FuncId → Option Con}

/-- What a call leaves behind, by what is asked of it. -/
def AfterW (O : Nat → Prop) (w : World) (F : FZ) (m : MP) (K : V → ST → Nat → Prop) (e : Ending) (w' : World) : Prop :=
  ∃ v F' m' r st' top', e = .returned v ∧ K r st' top' ∧ RelH O w F m top' F' m' st' w' ∧ RV m' F' w'.heap r v

def WFnOK (P : Program) (g : FuncId) (args : List V) (st : ST) (top : Nat) (K : V → ST → Nat → Prop) : Prop :=
  ∀ (O : Nat → Prop) (F : FZ) (m : MP) (w : World) (vs : List Value), RelH O w F m top F m st w → RVl m F w.heap args vs → Calls P g vs.toArray w (AfterW O w F m K)

def WYldOK (P : Program) (b : Nat) (args : List V) (st : ST) (top : Nat) (K : V → ST → Nat → Prop) : Prop :=
  ∀ (O : Nat → Prop) (F : FZ) (m : MP) (w : World) (vs : List Value), RelH O w F m top F m st w → RVl m F w.heap args vs → ∀ g c, m b = some (g, c) →
    ∃ fn tmps assign body, (Instr.yield g vs.toArray).run P w = .ok (.round g fn tmps assign body) w ∧ ∀ FF, Wide FF → RoundIn FF 0 P g fn tmps assign body w (AfterW O w F m K)

/-- Calls are followed as the model does. -/
def WHOK (P : Program) (H : WH) : Prop := ∀ c avs st top K, H c avs st top K → match c with
  | .fn g caps => EntersOK P g ∧ WFnOK P g (avs ++ caps) st top K
  | .yld b => WYldOK P b avs st top K
  | _ => False

theorem wop_ok {H : WH} (hC : CtxOK P C) (hH : WHOK P H) (o : Oper) {O : Nat → Prop} {w0 : World} {F0 : FZ} {M0 : MP} {D : List Deferred} {F : FZ} {m : MP} {sz : Nat} {tm : TM} {st : ST} {a : Act} {w : World} {top : Nat} {K : V → ST → Nat → Prop} {next : Act → World → Prop} {Q : Exit → Act → World → Prop}
    (h : Rel O w0 F0 M0 D (fun b => top ≤ b) F m sz tm st a w) (hd : okDst sz o.dst = true) (hx : wop P C H top tm st o.op K)
    (hn : ∀ v st' top' F' m' a' w', K v st' top' → Rel O w0 F0 M0 D (fun b => top' ≤ b) F' m' sz (putT tm o.dst v) st' a' w' → next a' w') : o.wpX P a w next Q := by
  have plain : (opA P top (ev tm) o.op).go st (fun v st' => K v st' (top + 1)) → o.wpX P a w next Q := by
    intro he
    refine opA_ok h (id := top) (Nat.le_refl _) hd he ?_
    intro F' m' c s a' w' hR hk
    exact hn _ _ _ F' m' a' w' hk (hR.weakU fun b hb => ⟨by omega, by omega⟩)
  cases ho : o.op with
  | call c =>
    obtain ⟨callee, args, ts⟩ := c
    cases callee with
    | value f =>
      rw [ho] at hx
      simp only [wop] at hx
      have hf := h.ev f
      obtain ⟨hal, hav⟩ := args_rel h args.toList
      split at hx
      · next g caps hg =>
        rw [hg] at hf
        split at hx
        · rw [← ho] at hx
          refine op_ok hC o h (id := top) (Nat.le_refl _) hd hx ?_
          intro F' m' c s a' w' hR hk
          exact hn _ _ _ F' m' a' w' hk (hR.weakU fun b hb => ⟨by omega, by omega⟩)
        · obtain ⟨henter, hok⟩ := hH _ _ _ _ _ hx
          obtain ⟨arr, hf', hl, hv⟩ := hf
          have hval : RVl m F w.heap (args.toList.map (ev tm) ++ caps) (args.toList.map a.eval ++ arr.toList) := by
            refine ⟨by rw [List.length_append, List.length_append, hal, hl], fun i c x hc hx => ?_⟩
            by_cases hi : i < (args.toList.map (ev tm)).length
            · rw [List.getElem?_append_left hi] at hc
              rw [List.getElem?_append_left (by omega)] at hx
              exact hav i c x hc hx
            · rw [List.getElem?_append_right (by omega)] at hc
              rw [List.getElem?_append_right (by omega), ← hal] at hx
              exact RV.of_RP (hv _ c x hc hx)
          have hrun : (execOp a.eval o).run P w = .ok (.enter g (args.toList.map a.eval ++ arr.toList).toArray) w := by
            simp only [execOp, ho, resolve, Deferred.ofValue, hf', Sem.run_bind, Sem.run_pure, Result.andThen_ok, invoke]
            have e : (#[] ++ args.map a.eval ++ arr) = (args.toList.map a.eval ++ arr.toList).toArray := by
              apply Array.ext'
              simp
            rw [e, henter]
          intro FF hW
          refine ⟨fun f _ => hW.fn f, ?_⟩
          rw [Oper.semAt_eq _ _ _ (not_defer hrun (fun d e => by cases e)), hrun]
          refine ⟨fun e => (by rw [hW.dep] at e; cases e), (callsIn_of_calls hW ?_)⟩
          refine (hok O F m w _ h.toH hval).mono ?_
          rintro e w' ⟨x, F', m', r, st', top', rfl, hk, hR, hr⟩
          exact hn _ _ _ F' m' _ _ hk ((h.back hR).put hd hr)
      · next b hb =>
        rw [hb] at hf
        obtain ⟨g, c, hm, hf'⟩ := hf
        obtain ⟨fn, tmps, assign, body, hy, hround⟩ := hH _ _ _ _ _ hx O F m w (args.toList.map a.eval) h.toH ⟨hal, hav⟩ g c hm
        have hrun : (execOp a.eval o).run P w = .ok (.round g fn tmps assign body) w := by
          simp only [execOp, ho, resolve, Deferred.ofValue, hf', Sem.run_bind, Sem.run_pure, Result.andThen_ok, invoke]
          have e : (#[] ++ args.map a.eval) = (args.toList.map a.eval).toArray := by
            apply Array.ext'
            simp
          rw [e, hy]
        intro FF hW
        refine ⟨fun f _ => hW.fn f, ?_⟩
        rw [Oper.semAt_eq _ _ _ (not_defer hrun (fun d e => by cases e)), hrun]
        refine ⟨fun e => (by rw [hW.dep] at e; cases e), (hround FF hW).mono ?_⟩
        rintro e w' ⟨x, F', m', r, st', top', rfl, hk, hR, hr⟩
        exact hn _ _ _ F' m' _ _ hk ((h.back hR).put hd hr)
      · exact hx.elim
    | builtin b => exact plain (by rw [ho] at hx ⊢; exact hx)
    | invoke r n => exact plain (by rw [ho] at hx ⊢; exact hx)
  | _ => exact plain (by rw [ho] at hx ⊢; exact hx)

/-- A region in the order of the text. -/
theorem wops_sound {H : WH} (hC : CtxOK P C) (hH : WHOK P H) {FF : Fence} (hW : Wide FF) {O : Nat → Prop} {w0 : World} {F0 : FZ} {M0 : MP} {D : List Deferred} {sz : Nat} {ops : Array Oper} {Q : Exit → Act → World → Prop} {K : TM → ST → Nat → Prop}
    (hn : ∀ tm' st' nx' F' m' a' w', K tm' st' nx' → Rel O w0 F0 M0 D (fun b => nx' ≤ b) F' m' sz tm' st' a' w' → Q .normal a' w') :
    ∀ (l : List Oper) (k : Nat) (top : Nat) (F : FZ) (m : MP) (tm : TM) (st : ST) (a : Act) (w : World), ops.toList.drop k = l → Rel O w0 F0 M0 D (fun b => top ≤ b) F m sz tm st a w →
      wops P C H sz ops.toList l top tm st K → wpOpsIn FF 0 P ops Q ((List.range ops.size).drop k) a w
  | [], k, top, F, m, tm, st, a, w, hl, h, hg => by
    have hk : ops.size ≤ k := by
      have := congrArg List.length hl
      simp at this
      omega
    rw [List.drop_of_length_le (by simpa using hk)]
    exact hn _ _ _ F m a w hg h
  | o :: l, k, top, F, m, tm, st, a, w, hl, h, hg => by
    have hk : k < ops.size := by
      have := congrArg List.length hl
      simp at this
      omega
    have ho : ops[k]? = some o := by
      have : (ops.toList.drop k)[0]? = some o := by rw [hl]; rfl
      rw [List.getElem?_drop, Nat.add_zero, Array.getElem?_toList] at this
      exact this
    have hl' : ops.toList.drop (k + 1) = l := by
      rw [← List.drop_drop, hl]; rfl
    have hr : (List.range ops.size).drop k = k :: (List.range ops.size).drop (k + 1) := by
      rw [List.drop_eq_getElem_cons (by simpa using hk)]
      simp
    rw [hr]
    simp only [wpOpsIn, ho]
    simp only [wops] at hg
    split at hg
    · cases hg
    · next hd =>
      have run : (wop P C H top tm st o.op fun v st' top' => wops P C H sz ops.toList l top' (putT tm o.dst v) st' K) → o.wpIn FF 0 P a w (wpOpsIn FF 0 P ops Q ((List.range ops.size).drop (k + 1))) Q := by
        intro hg
        refine wop_ok hC hH o h hd hg ?_ FF hW
        intro v st1 top1 F1 m1 a1 w1 hk1 hR
        exact wops_sound hC hH hW hn l (k + 1) top1 F1 m1 _ st1 a1 w1 hl' hR hk1
      have pass : wops P C H sz ops.toList l (top + 1) (putT tm o.dst vU) st K → wpOpsIn FF 0 P ops Q ((List.range ops.size).drop (k + 1)) (a.put o.dst undef) w := fun hg =>
        wops_sound hC hH hW hn l (k + 1) (top + 1) F m _ st _ w hl' ((h.weakU fun b hb => by omega).put hd (c := vU) rfl) hg
      split at hg
      · next hgd =>
        have hw : Region.wanted o (yielded ops a.tmps) = true := by simp [Region.wanted, hgd]
        rw [if_pos hw]
        exact run hg
      · next j want hgd =>
        split at hg
        · cases hg
        · next d hdj =>
          split at hg
          · next b hb =>
            have hy := yielded_of h hdj hb
            have g1 : (b == want) = true → wop P C H top tm st o.op fun v st' top' => wops P C H sz ops.toList l top' (putT tm o.dst v) st' K := by
              cases want
              · obtain ⟨_, g⟩ := br_elim hg; intro e; exact g (by simpa using e)
              · obtain ⟨g, _⟩ := br_elim hg; intro e; exact g (by simpa using e)
            have g2 : (b == want) = false → wops P C H sz ops.toList l (top + 1) (putT tm o.dst vU) st K := by
              cases want
              · obtain ⟨g, _⟩ := br_elim hg; intro e; exact g (by simpa using e)
              · obtain ⟨_, g⟩ := br_elim hg; intro e; exact g (by simpa using e)
            by_cases hbw : (b == want) = true
            · have hw : Region.wanted o (yielded ops a.tmps) = true := by simpa [Region.wanted, hgd, hy] using hbw
              rw [if_pos hw]
              exact run (g1 hbw)
            · have hw : ¬ Region.wanted o (yielded ops a.tmps) = true := by simpa [Region.wanted, hgd, hy] using hbw
              rw [if_neg hw]
              exact ⟨fun f _ => hW.fn f, pass (g2 (by simpa using hbw))⟩
          · next arr hb =>
            have hy := yielded_not h hdj hb
            have hw : ¬ Region.wanted o (yielded ops a.tmps) = true := by simp [Region.wanted, hgd, hy]
            rw [if_neg hw]
            exact ⟨fun f _ => hW.fn f, pass hg⟩
          · cases hg
end
end Go.Ev
/- The evaluator with inline calls is the model's: code, functions, rounds. -/
set_option linter.unusedVariables false
set_option linter.unusedSimpArgs false
namespace Go.Ev
open Go.RowKit

section
variable {P : Program} {C : FuncId → Option Con} {H : WH}

theorem wcode_sound (hC : CtxOK P C) (hH : WHOK P H) (hmix : P.follows .mixedOrders = true) {FF : Fence} (hW : Wide FF) {sz pins : Nat} {rd : Option Nat} {O : Nat → Prop} {w0 : World} {F0 : FZ} {M0 : MP} (hp : ∀ b y, M0 b = some y → b < pins) :
    ∀ (c : Code) (Q : AX → XS → Prop) (s : XS), wcode P C H sz pins rd c Q s →
    ∀ (QQ : Exit → Act → World → Prop) (F : FZ) (m : MP) (D : List Deferred) (a : Act) (w : World), Rel O w0 F0 M0 D (fun b => s.nx ≤ b) F m sz s.tm s.st a w → MarksR m s.ds D → RdOK m FF rd →
      (∀ e s' a' w' F' m' D', Q e s' → Rel O w0 F0 M0 D' (fun b => s'.nx ≤ b) F' m' sz s'.tm s'.st a' w' → MarksR m' s'.ds D' → RdOK m' FF rd → QQ (exOf e) a' w') → c.wpIn FF 0 P QQ a w
  | .skip, Q, s, hx, QQ, F, m, D, a, w, h, hM, hrd, hq => wpIn_skip (hq .normal s a w F m D hx h hM hrd)
  | .exit i, Q, s, hx, QQ, F, m, D, a, w, h, hM, hrd, hq => wpIn_exit (hq (.exit i) s a w F m D hx h hM hrd)
  | .ret, Q, s, hx, QQ, F, m, D, a, w, h, hM, hrd, hq => wpIn_ret (hq .ret s a w F m D hx h hM hrd)
  | .region id ops false, Q, s, hx, QQ, F, m, D, a, w, h, hM, hrd, hq => by
    simp only [wcode] at hx
    refine wpIn_region ?_
    have := wops_sound hC hH hW (Q := QQ) (w0 := w) (F0 := F) (M0 := m) (D := D) (fun tm' st' nx' F' m' a' w' hk hR => hq .normal ⟨tm', s.ds, st', nx', s.b0⟩ a' w' F' m' D hk (h.comp hR) (hM.mono hR.pin) (hrd.mono hR.pin)) ops.toList 0 s.nx F m s.tm s.st a w rfl h.base hx
    simpa using this
  | .region id ops true, Q, s, hx, QQ, F, m, D, a, w, h, hM, hrd, hq => by
    simp only [wcode] at hx
    split at hx
    · next hah =>
      exact evOpsD_sound hC hW hmix hah h.base hx fun F' m' tm' st' a' w' hR hK =>
        hq .normal _ a' w' F' m' D hK (h.comp hR) (hM.mono hR.pin) (hrd.mono hR.pin)
    · cases hx
  | .seq x y, Q, s, hx, QQ, F, m, D, a, w, h, hM, hrd, hq => by
    simp only [wcode] at hx
    refine wpIn_seq ?_
    refine wcode_sound hC hH hmix hW hp x _ s hx _ F m D a w h hM hrd ?_
    intro e s1 a1 w1 F1 m1 D1 hk r1 r2 r3
    cases e with
    | normal => exact wcode_sound hC hH hmix hW hp y Q s1 hk QQ F1 m1 D1 a1 w1 r1 r2 r3 hq
    | exit i => exact hq (.exit i) s1 a1 w1 F1 m1 D1 hk r1 r2 r3
    | ret => exact hq .ret s1 a1 w1 F1 m1 D1 hk r1 r2 r3
  | .cond c x y, Q, s, hx, QQ, F, m, D, a, w, h, hM, hrd, hq => by
    simp only [wcode] at hx
    have he := h.ev c
    split at hx
    · next b hb =>
      rw [hb] at he
      have he' : a.eval c = .bool b := he
      obtain ⟨g1, g2⟩ := br_elim hx
      refine wpIn_cond he' ?_
      cases b with
      | true => exact wcode_sound hC hH hmix hW hp x Q s (g1 rfl) QQ F m D a w h hM hrd hq
      | false => exact wcode_sound hC hH hmix hW hp y Q s (g2 rfl) QQ F m D a w h hM hrd hq
    · cases hx
  | .block i c, Q, s, hx, QQ, F, m, D, a, w, h, hM, hrd, hq => by
    simp only [wcode] at hx
    refine wpIn_block ?_
    refine wcode_sound hC hH hmix hW hp c _ s hx _ F m D a w h hM hrd ?_
    intro e s1 a1 w1 F1 m1 D1 hk r1 r2 r3
    cases e with
    | normal => exact hq .normal s1 a1 w1 F1 m1 D1 hk r1 r2 r3
    | exit j =>
      show Exit.inBlock i QQ (.exit j) a1 w1
      simp only [Exit.inBlock]
      by_cases hj : j = i
      · rw [if_pos hj]
        simp only [hj, decide_true] at hk
        exact hq .normal s1 a1 w1 F1 m1 D1 hk r1 r2 r3
      · rw [if_neg hj]
        simp only [hj, decide_false] at hk
        exact hq (.exit j) s1 a1 w1 F1 m1 D1 hk r1 r2 r3
    | ret => exact hq .ret s1 a1 w1 F1 m1 D1 hk r1 r2 r3
  | .loop c, Q, s, hx, QQ, F, m, D, a, w, h, hM, hrd, hq => by
    simp only [wcode] at hx
    obtain ⟨α, mk, μ, ⟨x0, r0, h0⟩, hround⟩ := hx
    refine wpIn_loop_ghost (fun n a w => ∃ x F m D, μ x = n ∧ Rel O w0 F0 M0 D (fun b => (mk x).nx ≤ b) F m sz (mk x).tm (mk x).st a w ∧ MarksR m s.ds D ∧ RdOK m FF rd) (μ x0)
      ⟨x0, F, _, D, rfl, h.subF hp h0, marks_sub h0.2.2.2.2.1 hM, rd_sub h0.2.2.2.2.2 hrd⟩ ?_
    rintro n a w ⟨x, F, m, D, rfl, hR, hM1, hrd1⟩
    refine wcode_sound hC hH hmix hW hp c _ ⟨(mk x).tm, s.ds, (mk x).st, (mk x).nx, s.b0⟩ (hround x) _ F m D a w hR hM1 hrd1 ?_
    intro e s1 a1 w1 F1 m1 D1 hk r1 r2 r3
    cases e with
    | normal =>
      obtain ⟨hds, y, r, hs, hlt⟩ := hk
      rw [hds] at r2
      exact ⟨μ y, hlt, y, F1, _, D1, rfl, r1.subF hp hs, marks_sub hs.2.2.2.2.1 r2, rd_sub hs.2.2.2.2.2 r3⟩
    | exit i =>
      obtain ⟨n, hn, hk⟩ := hk
      exact hq (.exit i) _ a1 w1 F1 m1 D1 hk (r1.weakU fun b hb => Nat.le_trans hn hb) r2 r3
    | ret =>
      obtain ⟨n, hn, hk⟩ := hk
      exact hq .ret _ a1 w1 F1 m1 D1 hk (r1.weakU fun b hb => Nat.le_trans hn hb) r2 r3
  | .rangeFunc f ps assign body, Q, s, hx, QQ, F, m, D, a, w, h, hM, hrd, hq => by
    simp only [wcode] at hx
    split at hx
    · cases hx
    · next s1 hs1 =>
      have hf := h.ev f
      split at hx
      · next g caps hg =>
        rw [hg] at hf
        obtain ⟨arr, hf', hl, hv⟩ := hf
        obtain ⟨henter, hok⟩ := hH _ _ _ _ _ hx
        refine wpIn_rangeFunc fun fn _ => ?_
        have ha : a.defers = D := h.hde
        -- the call
        have hres : ∀ (l : Nat) (w1 : World), (resolve a.eval (rangeCall f l) 0).run P w1 = .ok { target := .fn (.func g) arr, args := #[.func (.yield l) #[] #[]] } w1 := by
          intro l w1
          have e : (rangeCall f l).args.map a.eval = #[.func (.yield l) #[] #[]] := by simp [rangeCall, Act.eval]
          show (Deferred.ofValue (a.eval f) ((rangeCall f l).args.map a.eval)).run P w1 = _
          rw [hf', e]
          rfl
        have hinv : ∀ (l : Nat) (w1 : World), (invoke (.fn (.func g) arr) #[.func (.yield l) #[] #[]]).run P w1 = .ok (.enter g (.func (.yield l) #[] #[] :: arr.toList).toArray) w1 := by
          intro l w1
          simp only [invoke]
          have e : (#[.func (.yield l) #[] #[]] ++ arr : Array Value) = (.func (.yield l) #[] #[] :: arr.toList).toArray := by
            apply Array.ext'
            simp
          rw [e, henter]
        have hargs : ∀ (F1 : FZ) (m1 : MP) (w1 : World) (l c : Nat), m1 s.nx = some (l, c) → (∀ b y, m b = some y → m1 b = some y) → (∀ g j, F g j → F1 g j) → Keeps F w.heap w1.heap → RVl m1 F1 w1.heap ([.yld s.nx] ++ caps) (.func (.yield l) #[] #[] :: arr.toList) := by
          intro F1 m1 w1 l c hb hmm hff hkk
          refine ⟨by simp [hl], fun i c' x hc hx => ?_⟩
          cases i with
          | zero => simp at hc hx; subst hc hx; exact ⟨l, c, hb, rfl⟩
          | succ i =>
            simp at hc hx
            exact RV.of_RP ((hv i c' x hc (by simpa using hx)).mono hmm hff hkk)
        -- what is asked behind the call
        have after : ∀ {D' : List Deferred} {ds' : List Nat} {U : Nat → Prop} {F2 F3 : FZ} {m2 m3 : MP} {w1 w2 : World} {st1 st2 : ST} {nx2 l c : Nat} {a' : Act} {v : Value},
            (match look st2 s.nx with
              | some (.loop r2) => match isBusy r2.state with
                | true => False
                | false => match r2.pending with
                  | none => Q .normal ⟨s.tm, ds', (s.nx, .loop { r2 with state := .exhausted }) :: st2, nx2, s.b0⟩
                  | some (.exit i) => Q (.exit i) ⟨s.tm, ds', (s.nx, .loop { r2 with state := .exhausted }) :: st2, nx2, s.b0⟩
                  | some .ret => Q .ret ⟨s.tm, ds', (s.nx, .loop { r2 with state := .exhausted }) :: st2, nx2, s.b0⟩
                  | _ => False
              | _ => False) →
            Rel O w0 F0 M0 D U F2 m2 sz s.tm st1 a w1 → RelH O w1 F2 m2 nx2 F3 m3 st2 w2 → a'.tmps = a.tmps → a'.defers = D' → m2 s.nx = some (l, c) → MarksR m2 ds' D' → (∀ b y, m b = some y → m2 b = some y) → rangePost FF 0 P l QQ a' (.returned v) w2 := by
          intro D' ds' U F2 F3 m2 m3 w1 w2 st1 st2 nx2 l c a' v hk hR hkR hat haD hb hMk hmm
          split at hk
          · next r2 hr2 =>
            split at hk
            · cases hk
            · next hbusy =>
              split at hk
              · next hpn =>
                exact range_end (e := .normal) (j := none) hR hkR hat haD hb hr2 hbusy hMk hpn (.inl ⟨rfl, rfl⟩) fun w3 F' m' r1 r2' r3' => hq .normal _ _ w3 F' m' D' hk r1 r3' (hrd.mono fun b y e => r2' b y (hmm b y e))
              · next i hpn =>
                exact range_end (e := .exit i) (j := some (.exit i)) hR hkR hat haD hb hr2 hbusy hMk hpn (.inr (.inl ⟨i, rfl, rfl⟩)) fun w3 F' m' r1 r2' r3' => hq (.exit i) _ _ w3 F' m' D' hk r1 r3' (hrd.mono fun b y e => r2' b y (hmm b y e))
              · next hpn =>
                exact range_end (e := .ret) (j := some .ret) hR hkR hat haD hb hr2 hbusy hMk hpn (.inr (.inr ⟨rfl, rfl⟩)) fun w3 F' m' r1 r2' r3' => hq .ret _ _ w3 F' m' D' hk r1 r3' (hrd.mono fun b y e => r2' b y (hmm b y e))
              · cases hk
          · cases hk
        cases rd with
        | none =>
          have hro : FF.round = none := hrd
          cases hs1
          obtain ⟨hA, hmA, hkA⟩ := h.base.newO (id := s.nx + 1) (cap := 0) (by show s.nx ≤ s.nx + 1; omega) (o := .deferred (some [])) (x := .mark true) (by simp) (by
            intro m' hm' hid hk hh hno
            exact ⟨_, _, hid, h.own_new, hh, hno⟩)
          obtain ⟨hB, hmB, hkB⟩ := hA.newO (id := s.nx) (cap := 0) (by constructor <;> first | omega | (show s.nx ≤ s.nx; omega)) (o := .loop { state := .ready, pending := none, fn, tmps := a.tmps, params := ps, assign, body, defers := w.heap.size })
            (x := .loop ⟨s.tm, sz, ps, assign, body, .ready, none⟩) (by simp) (by
            intro m' hm' hid hk hh hno
            exact ⟨_, _, _, hid, hA.own_new, hh, hno, rfl, rfl, rfl, rfl, rfl, h.hsz, fun i => (hA.htm i).mono hm' (fun _ _ e => e) hk⟩)
          have hsize : (w.alloc (.deferred (some []))).heap.size = w.heap.size + 1 := by simp
          refine ⟨w.heap.size + 1, [{ target := .collected w.heap.size, args := #[] }], _, _, _, g, _, _, by rw [hro]; exact run_enterLoop_outer fn a.tmps ps assign body, hres _ _, fun f' _ => hW.fn f', hinv _ _, fun e => (by rw [hW.dep] at e; cases e), callsIn_of_calls hW ?_⟩
          refine (hok O _ _ _ _ (hB.weakU (U' := fun b => s.nx + 2 ≤ b) fun b hb => ⟨⟨show s.nx ≤ b by omega, by omega⟩, by omega⟩).toH (hargs _ _ _ (w.heap.size + 1) 0 (by simp [hsize]) (fun b y e => hmB b y (hmA b y e)) (fun _ _ e => e) (fun g' j' e => (hkB g' j' e).trans (hkA g' j' e)))).mono ?_
          rintro en w2 ⟨v, F3, m3, rr, st2, nx2, rfl, hk, hkR, _⟩
          refine after (a' := { a with defers := [{ target := .collected w.heap.size, args := #[] }] ++ a.defers }) (D' := { target := .collected w.heap.size, args := #[] } :: D) (ds' := (s.nx + 1) :: s.ds) (c := 0) hk (h.comp hB) hkR rfl (by rw [← ha]; rfl) (by simp [hsize]) ?_ (fun b y e => hmB b y (hmA b y e))
          exact ⟨⟨w.heap.size, 0, by simp, rfl⟩, hM.mono fun b y e => hmB b y (hmA b y e)⟩
        | some b =>
          obtain ⟨l0, c0, hro, hb0⟩ := hrd
          simp only [xenter] at hs1
          split at hs1
          · next r0 hr0 =>
            cases hs1
            obtain ⟨g0, c0', lp0, z1, z2, z3, _⟩ := h.hst b _ hr0
            rw [hb0] at z1; cases z1
            obtain ⟨hB, hmB, hkB⟩ := h.base.newO (id := s.nx) (cap := 0) (by show s.nx ≤ s.nx; omega) (o := .loop { state := .ready, pending := none, fn, tmps := a.tmps, params := ps, assign, body, defers := lp0.defers })
              (x := .loop ⟨s.tm, sz, ps, assign, body, .ready, none⟩) (by simp) (by
              intro m' hm' hid hk hh hno
              exact ⟨_, _, _, hid, h.own_new, hh, hno, rfl, rfl, rfl, rfl, rfl, h.hsz, fun i => (h.htm i).mono hm' (fun _ _ e => e) hk⟩)
            refine ⟨w.heap.size, [], _, _, _, g, _, _, by rw [hro]; exact run_enterLoop_inner z3 fn a.tmps ps assign body, hres _ _, fun f' _ => hW.fn f', hinv _ _, fun e => (by rw [hW.dep] at e; cases e), callsIn_of_calls hW ?_⟩
            refine (hok O _ _ _ _ (hB.weakU (U' := fun b => s.nx + 1 ≤ b) fun b hb => ⟨show s.nx ≤ b by omega, by omega⟩).toH (hargs _ _ _ w.heap.size 0 (by simp) hmB (fun _ _ e => e) hkB)).mono ?_
            rintro en w2 ⟨v, F3, m3, rr, st2, nx2, rfl, hk, hkR, _⟩
            exact after (a' := { a with defers := [] ++ a.defers }) (D' := D) (ds' := s.ds) (c := 0) hk (h.comp hB) hkR rfl (by rw [← ha]; rfl) (by simp) (hM.mono hmB) hmB
          · cases hs1
      · cases hx
  | .scope _, _, _, hx, _, _, _, _, _, _, _, _, _, _ => hx.elim
  | .label _, _, _, hx, _, _, _, _, _, _, _, _, _, _ => hx.elim
  | .goto _, _, _, hx, _, _, _, _, _, _, _, _, _, _ => hx.elim
  | .refuse _, _, _, hx, _, _, _, _, _, _, _, _, _, _ => hx.elim

theorem wres_ok {fn : Func} {O : Nat → Prop} {w0 : World} {F0 : FZ} {M0 : MP} {D : List Deferred} {U : Nat → Prop} {F : FZ} {m : MP} {sz : Nat} {tm : TM} {st : ST} {a : Act} {w : World} {K : V → ST → Prop}
    (h : Rel O w0 F0 M0 D U F m sz tm st a w) (hx : wres P fn tm st K) : ∃ v F' r st', (results fn a.tmps).run P w = .ok v w ∧ K r st' ∧ Rel O w0 F0 M0 D U F' m sz tm st' a w ∧ RV m F' w.heap r v := by
  unfold wres at hx
  split at hx
  · next t ht =>
    refine ⟨_, F, _, _, results_eq fn a.tmps w [a.tmps.getD t undef] (by rw [ht]; simp [List.mapM_cons, resOne]), hx, h, ?_⟩
    exact h.htm t
  · next p t ht =>
    obtain ⟨F0', st0, c0, v0, h0, e0, hrun, hv0, hk⟩ := load_sound (P := P) (C := fun _ => none) h hx
    have hld : (resOne a.tmps (.cell p t)).run P w = .ok v0 w := by
      have e : a.eval (.tmp p) = a.tmps.getD p undef := rfl
      rw [e] at hrun
      simp only [resOne]
      cases hp : a.tmps.getD p undef with
      | pointer q =>
        rw [hp] at hrun
        cases q with
        | some q => simpa [asAddr, Instr.loadAt, Instr.sureAddr] using hrun
        | none => simp [Instr.loadAt, Instr.sureAddr, Result.andThen] at hrun
      | _ => rw [hp] at hrun; simp [Instr.loadAt, Instr.sureAddr, Result.andThen] at hrun
    exact ⟨_, F0', c0, st0, results_eq fn a.tmps w [v0] (by rw [ht]; simp [List.mapM_cons, hld]), hk, h0, hv0⟩
  · obtain ⟨F1, st1, vs1, c1, r1, r2, r3, r4⟩ := resR_sound fn.results.toList [] [] F st h hx rfl (by simp)
    exact ⟨_, F1, c1, st1, results_eq fn a.tmps w vs1 r2, r4, r1, RV.of_RC r3⟩

theorem wfn_ok (hC : CtxOK P C) (hH : WHOK P H) (hmix : P.follows .mixedOrders = true) {g : FuncId} {fn : Func} {c : Code} (hf : P.funcs[g]? = some fn) (hb : fn.body = some c) {args : List V} {st : ST} {top : Nat} {K : V → ST → Nat → Prop}
    (hx : wfn P C H fn c args st top K) : WFnOK P g args st top K := by
  intro O F m w vs h hv
  unfold wfn at hx
  split at hx
  · cases hx
  · next hle =>
    have hlen : args.length ≤ fn.ntmps := Nat.le_of_ble_eq_true hle
    refine callsIn_wide.1 (callsIn_of_wp_marks (n := 0) hf hb trivial ?_)
    have hR0 : Rel O w F m [] (fun b => top ≤ b) F m fn.ntmps (startT args) st { tmps := vs.toArray ++ Array.replicate (fn.ntmps - vs.toArray.size) undef, defers := [] } w := by
      refine h.act (fun i => ?_) (by have := hv.1; simp; omega) rfl
      have e : look (startT args) i = args[i]? := by
        unfold startT
        rw [List.range_eq_range', look_start args 0 i]
        simp
      rw [e]
      cases hi : args[i]? with
      | none => exact trivial
      | some c =>
        have hl := hv.1
        have hil : i < args.length := (List.getElem?_eq_some_iff.1 hi).1
        have hx : vs[i]? = some (vs[i]'(by omega)) := List.getElem?_eq_getElem (by omega)
        have := hv.2 i c _ hi hx
        simp only [Option.getD_some]
        have e2 : (vs.toArray ++ Array.replicate (fn.ntmps - vs.toArray.size) undef).getD i undef = vs[i]'(by omega) := by
          rw [Array.getD_eq_getD_getElem?, Array.getElem?_append_left (by simp; omega)]
          simp [hx]
        rw [e2]
        exact this
    have hpins : ∀ b y, m b = some y → b < top := by
      intro b y e
      by_cases hb : top ≤ b
      · rw [(h.fresh b hb).2] at e; cases e
      · omega
    refine wcode_sound hC hH hmix wide_wide hpins c _ ⟨startT args, [], st, top, top⟩ hx _ F m [] _ w hR0 trivial rfl fun e s a' w' F' m' D' hk r1' r3' _ => ?_
    have fin : ∀ st1, xmarks s.ds s.st = some st1 → (wres P fn s.tm st1 fun r st2 => K r st2 s.nx) → LeavesInM Fence.wide 0 P fn a'.tmps (AfterW O w F m K) a'.defers .returning w' := by
      intro st1 hm hr
      rw [r1'.hde]
      refine leaves_ok s.ds D' s.st st1 w' hm r1' r3' fun w1 hR1 => ?_
      obtain ⟨v, F2, r, st2, hrun, hk2, hR2, hv2⟩ := wres_ok hR1 hr
      exact ⟨v, hrun, v, F2, m', r, st2, s.nx, rfl, hk2, hR2.heap, hv2⟩
    cases e with
    | normal =>
      simp only at hk
      split at hk
      · cases hk
      · next st1 hm => exact fin st1 hm hk
    | ret =>
      simp only at hk
      split at hk
      · cases hk
      · next st1 hm => exact fin st1 hm hk
    | exit i => exact hk.elim

theorem wround_ok (hC : CtxOK P C) (hH : WHOK P H) (hmix : P.follows .mixedOrders = true) {b : Nat} {args : List V} {st : ST} {top : Nat} {K : V → ST → Nat → Prop}
    (hx : wround P C H b args st top K) : WYldOK P b args st top K := by
  intro O F m w vs h hv g c hm
  have hpins : ∀ b y, m b = some y → b < top := by
    intro b y e
    by_cases hb : top ≤ b
    · rw [(h.fresh b hb).2] at e; cases e
    · omega
  unfold wround at hx
  split at hx
  · next r0 hl0 =>
    split at hx
    · next hrd =>
      split at hx
      · cases hx
      · next hlen =>
        rw [Bool.and_eq_true] at hlen
        have hn : args.length = r0.ps.size := Nat.eq_of_beq_eq_true hlen.1
        obtain ⟨g', c', lp, q1, q2, q3, q4, q5, q6, q7, q8, q9, q10, q11⟩ := h.hst b _ hl0
        rw [hm] at q1; cases q1
        have hvs : vs.length = lp.params.size := by rw [q7, ← hn, hv.1]
        have hy := run_yield (P := P) (args := vs.toArray) q3 (by simpa using hvs)
        refine ⟨_, _, _, _, hy, fun FF hW => ?_⟩
        have hfold : (lp.params.zip vs.toArray).foldl (fun tmps (t, a) => tmps.setIfInBounds t a) lp.tmps = (r0.ps.toList.zip vs).foldl (fun t p => t.setIfInBounds p.1 p.2) lp.tmps := by
          rw [q7, ← Array.foldl_toList, Array.toList_zip]
        have hput := foldl_put (m := m) (F := F) (Hp := w.heap) (sz := r0.sz) (r0.ps.toList.zip args) (r0.ps.toList.zip vs) r0.tm lp.tmps (by simp [hv.1]) (by
          intro i p q e1 e2
          rw [List.getElem?_zip_eq_some] at e1 e2
          have : p.1 = q.1 := by have := e1.1.symm.trans e2.1; simpa using this
          refine ⟨this, ?_, hv.2 i _ _ e1.2 e2.2⟩
          have := List.all_eq_true.1 hlen.2 p.1 (List.mem_of_getElem? e1.1)
          exact Nat.le_of_ble_eq_true this) q10 q11
        refine roundIn_of_wpIn (hW.fn _) ?_
        rw [hfold]
        have hR0 : Rel O w F m [] (fun b => top ≤ b) F m r0.sz ((r0.ps.toList.zip args).foldl (fun t p => p :: t) r0.tm) st { tmps := (r0.ps.toList.zip vs).foldl (fun t p => t.setIfInBounds p.1 p.2) lp.tmps, defers := [] } w :=
          h.act hput.2 hput.1 rfl
        have hrdok : RdOK m (FF.inRound g) (some b) := ⟨g, c, rfl, hm⟩
        rw [q8]
        refine wcode_sound hC hH hmix (wide_round hW g) hpins r0.assign _ ⟨_, [], st, top, top⟩ hx _ F m [] _ w hR0 trivial hrdok fun e s1 a1 w1 F1 m1 D1 hk z1 z3 z4 => ?_
        cases e with
        | normal =>
          simp only at hk
          split at hk
          · next r1 hl1 =>
            split at hk
            · next hrd1 =>
              -- the body
              have hm1 := z1.pin _ _ hm
              obtain ⟨g1, c1, lp1, y1, y2, y3, y4, y5, y6, y7, y8, y9, y10, y11⟩ := z1.hst b _ hl1
              rw [hm1] at y1; cases y1
              have hB := z1.putO (x1 := .loop { r1 with state := .busy }) hl1 (by simp) (by simp) hm1 y2 y4 (o := .loop { lp1 with state := .busy }) (fun hkk hnew =>
                ⟨_, _, _, hm1, y2, hnew, y4, rfl, y6, y7, y8, y9, y10, fun i => (y11 i).mono (fun _ _ e => e) (fun _ _ e => e) hkk⟩)
              refine ⟨_, run_beginRound y3 (by rw [y5]; exact isReady_eq hrd1), ?_⟩
              rw [q9]
              refine wcode_sound hC hH hmix (wide_round hW g) hpins r0.body _ ⟨s1.tm, s1.ds, _, s1.nx, s1.b0⟩ hk _ F1 m1 D1 _ _ hB z3 z4 fun e s2 a2 w2 F2 m2 D2 hk2 x1 x3 x4 => ?_
              split at hk2
              · next r2 hl2 =>
                have hm2 := x1.pin _ _ hm
                obtain ⟨g2, c2, lp2, u1, u2, u3, u4, u5, u6, u7, u8, u9, u10, u11⟩ := x1.hst b _ hl2
                rw [hm2] at u1; cases u1
                have fin : ∀ (j : Option Code) (ls : LoopState), ls = (if j.isNone then .ready else .done) → Rel O w F m D2 (fun b => s2.nx ≤ b) F2 m2 r0.sz s2.tm ((b, .loop { r2 with state := ls, pending := j }) :: s2.st) a2 (w2.putObj g (.loop { lp2 with state := (if j.isNone then .ready else .done), pending := j })) := by
                  intro j ls hls
                  subst hls
                  exact x1.putO hl2 (by simp) (by simp) hm2 u2 u4 (fun hkk hnew =>
                    ⟨_, _, _, hm2, u2, hnew, u4, rfl, rfl, u7, u8, u9, u10, fun i => (u11 i).mono (fun _ _ e => e) (fun _ _ e => e) hkk⟩)
                cases e with
                | normal => exact ⟨_, _, run_endRound none u3, _, F2, m2, _, _, _, rfl, hk2, (fin none .ready rfl).heap, rfl⟩
                | exit i => exact ⟨_, _, run_endRound (some (.exit i)) u3, _, F2, m2, _, _, _, rfl, hk2, (fin (some (.exit i)) .done rfl).heap, rfl⟩
                | ret => exact ⟨_, _, run_endRound (some .ret) u3, _, F2, m2, _, _, _, rfl, hk2, (fin (some .ret) .done rfl).heap, rfl⟩
              · cases hk2
            · cases hk
          · cases hk
        | exit i => exact hk.elim
        | ret => exact hk.elim
    · cases hx
  · cases hx

theorem wcall_ok {G : XG} (hC : CtxOK P C) (hG : GOK P G) (hmix : P.follows .mixedOrders = true) : ∀ n, WHOK P (wcall P C G n)
  | 0 => fun c avs st top K h => h.elim
  | n + 1 => by
    intro c avs st top K h
    have ih := wcall_ok hC hG hmix n
    simp only [wcall] at h
    split at h
    · next g caps =>
      split at h
      · next fn hg =>
        split at h
        · next code hb => exact ⟨(hG g fn hg).2, wfn_ok hC ih hmix (hG g fn hg).1 hb h⟩
        · cases h
      · cases h
    · next b => exact wround_ok hC ih hmix h
    · cases h

/-- What is asked of a result at the end. -/
def endI (r : V) (v : V) (st : ST) (nx : Nat) : Prop := (fz 4 v .ret).go st fun r' _ => LeV r' r

/-- A FUNCTION, by what the evaluator says of it, calls followed inline. -/
theorem hasI {G : XG} (hC : CtxOK P C) (hG : GOK P G) (hmix : P.follows .mixedOrders = true) (n : Nat) {f : FuncId} {fn : Func} {c : Code} (hf : P.funcs[f]? = some fn) (hb : fn.body = some c)
    (hn : (fn.name == "runtime.NumGoroutine") = false) {α β : Type} {F : α → Option β} {enc : α → List V} {er : β → V}
    (h : ∀ x r, (F x).bind some = some r → wfn P C (wcall P C G n) fn c (enc x) [] 0 (endI (er r))) : Has P f (conF F enc er) := by
  refine ⟨?_, enters_ok hf hn (by simp [hb])⟩
  show SoundV P f _
  rintro ⟨x, y⟩ F1 w vs hF hv hok
  have hok : F x = some y := hok
  have hx := h x y (by rw [hok]; rfl)
  have hR : RelH (fun k => w.heap.size ≤ k) w F1 (fun _ => none) 0 F1 (fun _ => none) [] w :=
    { htm := fun i => trivial, hsz := rfl, hde := rfl, hst := fun b x hx => by simp at hx, inj := fun b b' g c c' _ _ hm => (by cases hm), fresh := fun b _ => ⟨rfl, rfl⟩, pin := fun b y e => (by cases e), keep := Keeps.refl _ _, f0 := fun _ _ e => e, f1 := fun _ _ e => .inl e, f2 := hF, mlt := fun b g c hm => (by cases hm), below := Own.refl _ _, hb := fun _ e => e }
  have hv' : RVl (fun _ => none) F1 w.heap (enc x) vs := by
    have := RCs_iff.1 hv
    exact ⟨this.1, fun i c x hc hx => RV.of_RC (this.2 i c x hc hx).1⟩
  refine (wfn_ok hC (wcall_ok hC hG hmix n) hmix hf hb hx _ F1 _ w vs hR hv').mono ?_
  rintro e w' ⟨v, F', m', r1, st', top', rfl, hk, hR', hr⟩
  obtain ⟨F2, st2, c1, k1, k2, k3, k4, _⟩ := fz_sound 4 r1 v .ret st' F' (fun c' s => LeV c' (er y)) hR' hr hk
  exact ⟨v, F2, rfl, k1.below.below, k1.f0, k1.f1, k1.f2, LeV.le k4 _ _ _ k3⟩
end
end Go.Ev
/- Steps of the evaluator with inline calls, one at a time. -/
set_option linter.unusedVariables false
set_option linter.unusedSimpArgs false
namespace Go.Ev

/-- Boxes that a renaming leaves alone. -/
def idr (n : Nat) : List (Nat × Nat) := (List.range n).map fun i => (i, i)
/-- Boxes that a loop keeps as they are. -/
noncomputable def keepB (keep : List Nat) (st : ST) : ST := keep.filterMap fun b => (look st b).map fun x => (b, x)

section
variable {P : Program} {C : FuncId → Option Con} {H : WH} {sz pins nx b0 top : Nat} {tm : TM} {st : ST} {ds : List Nat} {rd : Option Nat}

/-! operations -/
def isV : Op → Bool
  | .call c => match c.callee with
    | .value _ => true
    | _ => false
  | _ => false
theorem wop_plain {op : Op} {K : V → ST → Nat → Prop} (hv : isV op = false) (h : (opA P top (ev tm) op).go st fun v st' => K v st' (top + 1)) : wop P C H top tm st op K := by
  cases op with
  | call c =>
    obtain ⟨callee, args, x⟩ := c
    cases callee with
    | value f => cases hv
    | _ => exact h
  | _ => exact h
theorem wop_con {c : Call} {f : Operand} {g : FuncId} {caps : List V} {con : Con} {K : V → ST → Nat → Prop} (hv : c.callee = .value f) (hf : ev tm f = .fn g caps) (hc : C g = some con) (h : (opR P C top (ev tm) (.call c)).go st fun v st' => K v st' (top + 1)) : wop P C H top tm st (.call c) K := by
  simp only [wop, hv, hf, hc]
  exact h
theorem wop_inl {c : Call} {f : Operand} {g : FuncId} {caps : List V} {K : V → ST → Nat → Prop} (hv : c.callee = .value f) (hf : ev tm f = .fn g caps) (hc : C g = none) (h : H (.fn g caps) (c.args.toList.map (ev tm)) st top K) : wop P C H top tm st (.call c) K := by
  simp only [wop, hv, hf, hc]
  exact h
theorem wop_yld {c : Call} {f : Operand} {b : Nat} {K : V → ST → Nat → Prop} (hv : c.callee = .value f) (hf : ev tm f = .yld b) (h : H (.yld b) (c.args.toList.map (ev tm)) st top K) : wop P C H top tm st (.call c) K := by
  simp only [wop, hv, hf]
  exact h

def wopsK (P : Program) (C : FuncId → Option Con) (H : WH) (sz : Nat) (all os : List Oper) (tm : TM) (dst : Option Nat) (K : TM → ST → Nat → Prop) (v : V) (st : ST) (top : Nat) : Prop := wops P C H sz all os top (putT tm dst v) st K
theorem wops_k {all os : List Oper} {dst : Option Nat} {K : TM → ST → Nat → Prop} {v : V} (h : wops P C H sz all os top (putT tm dst v) st K) : wopsK P C H sz all os tm dst K v st top := h
theorem wops_nil {all : List Oper} {K : TM → ST → Nat → Prop} (h : K tm st top) : wops P C H sz all [] top tm st K := h
theorem wops_cons {all : List Oper} {o : Oper} {os : List Oper} {K : TM → ST → Nat → Prop} (hd : okDst sz o.dst = true) (hg : o.guard = none)
    (h : wop P C H top tm st o.op (wopsK P C H sz all os tm o.dst K)) : wops P C H sz all (o :: os) top tm st K := by
  unfold wops
  simp only [hd, hg]
  exact h
theorem wops_take {all : List Oper} {o : Oper} {os : List Oper} {K : TM → ST → Nat → Prop} {j d : Nat} {want : Bool} (hd : okDst sz o.dst = true) (hg : o.guard = some (j, want)) (hj : (all[j]?).bind (·.dst) = some d) (hl : (look tm d).getD .top = .v (.bool want))
    (h : wop P C H top tm st o.op (wopsK P C H sz all os tm o.dst K)) : wops P C H sz all (o :: os) top tm st K := by
  unfold wops
  simp only [hd, hg, hj, hl]
  cases want with
  | true => exact h
  | false => exact h
theorem wops_skip {all : List Oper} {o : Oper} {os : List Oper} {K : TM → ST → Nat → Prop} {j d : Nat} {want : Bool} (hd : okDst sz o.dst = true) (hg : o.guard = some (j, want)) (hj : (all[j]?).bind (·.dst) = some d) (hl : (look tm d).getD .top = .v (.bool !want))
    (h : wops P C H sz all os (top + 1) (putT tm o.dst vU) st K) : wops P C H sz all (o :: os) top tm st K := by
  unfold wops
  simp only [hd, hg, hj, hl]
  cases want with
  | true => exact h
  | false => exact h
theorem wops_skipU {all : List Oper} {o : Oper} {os : List Oper} {K : TM → ST → Nat → Prop} {j d : Nat} {want : Bool} {arr : Array Value} (hd : okDst sz o.dst = true) (hg : o.guard = some (j, want)) (hj : (all[j]?).bind (·.dst) = some d) (hl : (look tm d).getD .top = .v (.tuple arr))
    (h : wops P C H sz all os (top + 1) (putT tm o.dst vU) st K) : wops P C H sz all (o :: os) top tm st K := by
  unfold wops
  simp only [hd, hg, hj, hl]
  exact h

/-! code -/
def wseqK (P : Program) (C : FuncId → Option Con) (H : WH) (sz pins : Nat) (rd : Option Nat) (b : Code) (Q : AX → XS → Prop) (e : AX) (s : XS) : Prop := match e with
  | .normal => wcode P C H sz pins rd b Q s
  | e => Q e s
def wblockK (id : Nat) (Q : AX → XS → Prop) (e : AX) (s : XS) : Prop := match e with
  | .exit j => match decide (j = id) with
    | true => Q .normal s
    | false => Q (.exit j) s
  | e => Q e s
def wloopK (pins : Nat) (ds : List Nat) (rd : Option Nat) {α : Type} (mk : α → LS) (μ : α → Nat) (x : α) (Q : AX → XS → Prop) (e : AX) (s : XS) : Prop := match e with
  | .normal => s.ds = ds ∧ ∃ y r, SubF pins ds rd r (mk y).tm (mk y).st (mk y).nx s.tm s.st ∧ μ y < μ x
  | e => ∃ n, s.nx ≤ n ∧ Q e ⟨s.tm, s.ds, s.st, n, s.b0⟩
def wfnK (P : Program) (fn : Func) (K : V → ST → Nat → Prop) (e : AX) (s : XS) : Prop := match e with
  | .exit _ => False
  | _ => match xmarks s.ds s.st with
    | none => False
    | some st1 => wres P fn s.tm st1 fun r st2 => K r st2 s.nx
def wbodyK (b : Nat) (K : V → ST → Nat → Prop) (e : AX) (s2 : XS) : Prop := match look s2.st b with
  | some (.loop r2) => match e with
    | .normal => K (.v (.bool true)) ((b, .loop { r2 with state := .ready, pending := none }) :: s2.st) s2.nx
    | .exit i => K (.v (.bool false)) ((b, .loop { r2 with state := .done, pending := some (.exit i) }) :: s2.st) s2.nx
    | .ret => K (.v (.bool false)) ((b, .loop { r2 with state := .done, pending := some .ret }) :: s2.st) s2.nx
  | _ => False
def wasgK (P : Program) (C : FuncId → Option Con) (H : WH) (sz pins b : Nat) (body : Code) (K : V → ST → Nat → Prop) (e : AX) (s1 : XS) : Prop := match e with
  | .normal => match look s1.st b with
    | some (.loop r1) => match isReady r1.state with
      | true => wcode P C H sz pins (some b) body (wbodyK b K) ⟨s1.tm, s1.ds, (b, .loop { r1 with state := .busy }) :: s1.st, s1.nx, s1.b0⟩
      | false => False
    | _ => False
  | _ => False
def wrangeK (b : Nat) (tm : TM) (ds : List Nat) (b0 : Nat) (Q : AX → XS → Prop) (_ : V) (st2 : ST) (nx2 : Nat) : Prop := match look st2 b with
  | some (.loop r2) => match isBusy r2.state with
    | true => False
    | false => match r2.pending with
      | none => Q .normal ⟨tm, ds, (b, .loop { r2 with state := .exhausted }) :: st2, nx2, b0⟩
      | some (.exit i) => Q (.exit i) ⟨tm, ds, (b, .loop { r2 with state := .exhausted }) :: st2, nx2, b0⟩
      | some .ret => Q .ret ⟨tm, ds, (b, .loop { r2 with state := .exhausted }) :: st2, nx2, b0⟩
      | _ => False
  | _ => False

variable {Q : AX → XS → Prop} {a b c : Code}
theorem ws_skip (h : Q .normal ⟨tm, ds, st, nx, b0⟩) : wcode P C H sz pins rd .skip Q ⟨tm, ds, st, nx, b0⟩ := h
def wregK (Q : AX → XS → Prop) (ds : List Nat) (b0 : Nat) (tm : TM) (st : ST) (nx : Nat) : Prop := Q .normal ⟨tm, ds, st, nx, b0⟩
theorem w_reg (h : Q .normal ⟨tm, ds, st, nx, b0⟩) : wregK Q ds b0 tm st nx := h
def wregDK (Q : AX → XS → Prop) (ds : List Nat) (b0 nx : Nat) (tm : TM) (st : ST) : Prop := Q .normal ⟨tm, ds, st, nx, b0⟩
theorem w_regD (h : Q .normal ⟨tm, ds, st, nx, b0⟩) : wregDK Q ds b0 nx tm st := h
theorem ws_region {i : Nat} {ops : Array Oper} {l : List Oper} (hl : ops.toList = l) (h : wops P C H sz l l nx tm st (wregK Q ds b0)) : wcode P C H sz pins rd (.region i ops false) Q ⟨tm, ds, st, nx, b0⟩ := by
  subst hl
  exact h
theorem ws_regionD {i : Nat} {ops : Array Oper} {nx' : Nat} (ha : aheadB ops.toList = true) (hn : nx + ops.size = nx') (h : evOpsD P C sz ops nx ops.toList 0 tm st [] (wregDK Q ds b0 nx')) : wcode P C H sz pins rd (.region i ops true) Q ⟨tm, ds, st, nx, b0⟩ := by
  subst hn
  simp only [wcode, ha]
  exact h
theorem ws_seq (h : wcode P C H sz pins rd a (wseqK P C H sz pins rd b Q) ⟨tm, ds, st, nx, b0⟩) : wcode P C H sz pins rd (.seq a b) Q ⟨tm, ds, st, nx, b0⟩ := h
theorem ws_cond {x : Operand} {p : Bool} (hc : ev tm x = .v (.bool p)) (h1 : p = true → wcode P C H sz pins rd a Q ⟨tm, ds, st, nx, b0⟩) (h2 : p = false → wcode P C H sz pins rd b Q ⟨tm, ds, st, nx, b0⟩) : wcode P C H sz pins rd (.cond x a b) Q ⟨tm, ds, st, nx, b0⟩ := by
  simp only [wcode, hc]
  exact br_intro h1 h2
theorem ws_condT {x : Operand} (hc : ev tm x = .v (.bool true)) (h1 : wcode P C H sz pins rd a Q ⟨tm, ds, st, nx, b0⟩) : wcode P C H sz pins rd (.cond x a b) Q ⟨tm, ds, st, nx, b0⟩ := ws_cond hc (fun _ => h1) (fun e => by cases e)
theorem ws_condF {x : Operand} (hc : ev tm x = .v (.bool false)) (h1 : wcode P C H sz pins rd b Q ⟨tm, ds, st, nx, b0⟩) : wcode P C H sz pins rd (.cond x a b) Q ⟨tm, ds, st, nx, b0⟩ := ws_cond hc (fun e => by cases e) (fun _ => h1)
theorem ws_block {i : Nat} (h : wcode P C H sz pins rd a (wblockK i Q) ⟨tm, ds, st, nx, b0⟩) : wcode P C H sz pins rd (.block i a) Q ⟨tm, ds, st, nx, b0⟩ := h
theorem ws_exit {i : Nat} (h : Q (.exit i) ⟨tm, ds, st, nx, b0⟩) : wcode P C H sz pins rd (.exit i) Q ⟨tm, ds, st, nx, b0⟩ := h
theorem ws_ret (h : Q .ret ⟨tm, ds, st, nx, b0⟩) : wcode P C H sz pins rd .ret Q ⟨tm, ds, st, nx, b0⟩ := h
theorem ws_loop {α : Type} {mk : α → LS} {μ : α → Nat} (h0 : ∃ x r, SubF pins ds rd r (mk x).tm (mk x).st (mk x).nx tm st) (h : ∀ x, wcode P C H sz pins rd a (wloopK pins ds rd mk μ x Q) ⟨(mk x).tm, ds, (mk x).st, (mk x).nx, b0⟩) : wcode P C H sz pins rd (.loop a) Q ⟨tm, ds, st, nx, b0⟩ := ⟨α, mk, μ, h0, h⟩
/-- A range over a function, outside rounds and within. -/
theorem ws_range0 {f : Operand} {ps : Array Tmp} {asg body : Code} {g : FuncId} {caps : List V} (hf : ev tm f = .fn g caps)
    (h : H (.fn g caps) [.yld nx] ((nx, .loop ⟨tm, sz, ps, asg, body, .ready, none⟩) :: (nx + 1, .mark true) :: st) (nx + 2) (wrangeK nx tm ((nx + 1) :: ds) b0 Q)) : wcode P C H sz pins none (.rangeFunc f ps asg body) Q ⟨tm, ds, st, nx, b0⟩ := by
  simp only [wcode, xenter, hf]
  exact h
theorem ws_range1 {rb : Nat} {f : Operand} {ps : Array Tmp} {asg body : Code} {g : FuncId} {caps : List V} {r0 : LoopX} (hf : ev tm f = .fn g caps) (hr : look st rb = some (.loop r0))
    (h : H (.fn g caps) [.yld nx] ((nx, .loop ⟨tm, sz, ps, asg, body, .ready, none⟩) :: st) (nx + 1) (wrangeK nx tm ds b0 Q)) : wcode P C H sz pins (some rb) (.rangeFunc f ps asg body) Q ⟨tm, ds, st, nx, b0⟩ := by
  simp only [wcode, xenter, hf, hr]
  exact h

theorem kw_seq (h : wcode P C H sz pins rd b Q ⟨tm, ds, st, nx, b0⟩) : wseqK P C H sz pins rd b Q .normal ⟨tm, ds, st, nx, b0⟩ := h
theorem kw_seqX {i : Nat} (h : Q (.exit i) ⟨tm, ds, st, nx, b0⟩) : wseqK P C H sz pins rd b Q (.exit i) ⟨tm, ds, st, nx, b0⟩ := h
theorem kw_seqR (h : Q .ret ⟨tm, ds, st, nx, b0⟩) : wseqK P C H sz pins rd b Q .ret ⟨tm, ds, st, nx, b0⟩ := h
theorem kw_block {i : Nat} (h : Q .normal ⟨tm, ds, st, nx, b0⟩) : wblockK i Q .normal ⟨tm, ds, st, nx, b0⟩ := h
theorem kw_blockX {i : Nat} (h : Q .normal ⟨tm, ds, st, nx, b0⟩) : wblockK i Q (.exit i) ⟨tm, ds, st, nx, b0⟩ := by simp only [wblockK, decide_true]; exact h
theorem kw_blockY {i j : Nat} (hj : decide (j = i) = false) (h : Q (.exit j) ⟨tm, ds, st, nx, b0⟩) : wblockK i Q (.exit j) ⟨tm, ds, st, nx, b0⟩ := by simp only [wblockK, hj]; exact h
theorem kw_blockR {i : Nat} (h : Q .ret ⟨tm, ds, st, nx, b0⟩) : wblockK i Q .ret ⟨tm, ds, st, nx, b0⟩ := h
theorem kw_loopX {α : Type} {mk : α → LS} {μ : α → Nat} {x : α} {i : Nat} (n : Nat) (hn : nx ≤ n) (h : Q (.exit i) ⟨tm, ds, st, n, b0⟩) {ds' : List Nat} : wloopK pins ds' rd mk μ x Q (.exit i) ⟨tm, ds, st, nx, b0⟩ := ⟨n, hn, h⟩
theorem kw_loopR {α : Type} {mk : α → LS} {μ : α → Nat} {x : α} (n : Nat) (hn : nx ≤ n) (h : Q .ret ⟨tm, ds, st, n, b0⟩) {ds' : List Nat} : wloopK pins ds' rd mk μ x Q .ret ⟨tm, ds, st, nx, b0⟩ := ⟨n, hn, h⟩

theorem kw_fn1 {fn : Func} {K : V → ST → Nat → Prop} {t : Nat} {st1 : ST} {e : AX} (he : (match e with | .exit _ => false | _ => true) = true) (hr : fn.results.toList = [.tmp t]) (hm : xmarks ds st = some st1) (h : (RM.retF ((look tm t).getD .top)).go st1 fun r st2 => K r st2 nx) : wfnK P fn K e ⟨tm, ds, st, nx, b0⟩ := by
  rw [RM.retF_eq] at h
  cases e with
  | exit i => cases he
  | normal => simp only [wfnK, hm, wres, hr]; exact h
  | ret => simp only [wfnK, hm, wres, hr]; exact h
theorem kw_fnC {fn : Func} {K : V → ST → Nat → Prop} {t a : Nat} {st1 : ST} {e : AX} (he : (match e with | .exit _ => false | _ => true) = true) (hr : fn.results.toList = [.cell a t]) (hm : xmarks ds st = some st1) (h : (opR P (fun _ => none) 0 (ev tm) (.load t (.tmp a))).go st1 fun r st2 => K r st2 nx) : wfnK P fn K e ⟨tm, ds, st, nx, b0⟩ := by
  cases e with
  | exit i => cases he
  | normal => simp only [wfnK, hm, wres, hr]; exact h
  | ret => simp only [wfnK, hm, wres, hr]; exact h
def sing : List ResultVar → Bool
  | [_] => true
  | _ => false
theorem kw_fnN {fn : Func} {K : V → ST → Nat → Prop} {l : List ResultVar} {st1 : ST} {e : AX} (he : (match e with | .exit _ => false | _ => true) = true) (hr : fn.results.toList = l) (hs : sing l = false) (hm : xmarks ds st = some st1) (h : (resR P tm l []).go st1 fun r st2 => K r st2 nx) : wfnK P fn K e ⟨tm, ds, st, nx, b0⟩ := by
  have hw : wres P fn tm st1 fun r st2 => K r st2 nx := by
    unfold wres
    rw [hr]
    split
    · cases hs
    · cases hs
    · exact h
  cases e with
  | exit i => cases he
  | normal => simp only [wfnK, hm]; exact hw
  | ret => simp only [wfnK, hm]; exact hw

/-! calls that are followed -/
variable {G : XG} {n : Nat}
theorem w_fn {g : FuncId} {caps avs : List V} {fn : Func} {code : Code} {K : V → ST → Nat → Prop} (hg : G g = some fn) (hb : fn.body = some code) (hl : Nat.ble (avs ++ caps).length fn.ntmps = true) (h : wcode P C (wcall P C G n) fn.ntmps top none code (wfnK P fn K) ⟨startT (avs ++ caps), [], st, top, top⟩) : wcall P C G (n + 1) (.fn g caps) avs st top K := by
  simp only [wcall, hg, hb, wfn, hl]
  exact h
theorem w_yld {b : Nat} {avs : List V} {r : LoopX} {K : V → ST → Nat → Prop} (hl : look st b = some (.loop r)) (hr : isReady r.state = true) (ha : (Nat.beq avs.length r.ps.size && r.ps.toList.all fun p => Nat.ble (p + 1) r.sz) = true)
    (h : wcode P C (wcall P C G n) r.sz top (some b) r.assign (wasgK P C (wcall P C G n) r.sz top b r.body K) ⟨(r.ps.toList.zip avs).foldl (fun t p => p :: t) r.tm, [], st, top, top⟩) : wcall P C G (n + 1) (.yld b) avs st top K := by
  simp only [wcall, wround, hl, hr, ha]
  exact h
theorem w_asg {bx : Nat} {body : Code} {K : V → ST → Nat → Prop} {r1 : LoopX} (hl : look st bx = some (.loop r1)) (hr : isReady r1.state = true) (h : wcode P C H sz pins (some bx) body (wbodyK bx K) ⟨tm, ds, (bx, .loop { r1 with state := .busy }) :: st, nx, b0⟩) : wasgK P C H sz pins bx body K .normal ⟨tm, ds, st, nx, b0⟩ := by
  simp only [wasgK, hl, hr]
  exact h
theorem w_bodyN {bx : Nat} {K : V → ST → Nat → Prop} {r2 : LoopX} (hl : look st bx = some (.loop r2)) (h : K (.v (.bool true)) ((bx, .loop { r2 with state := .ready, pending := none }) :: st) nx) : wbodyK bx K .normal ⟨tm, ds, st, nx, b0⟩ := by
  simp only [wbodyK, hl]
  exact h
theorem w_bodyX {bx i : Nat} {K : V → ST → Nat → Prop} {r2 : LoopX} (hl : look st bx = some (.loop r2)) (h : K (.v (.bool false)) ((bx, .loop { r2 with state := .done, pending := some (.exit i) }) :: st) nx) : wbodyK bx K (.exit i) ⟨tm, ds, st, nx, b0⟩ := by
  simp only [wbodyK, hl]
  exact h
theorem w_bodyR {bx : Nat} {K : V → ST → Nat → Prop} {r2 : LoopX} (hl : look st bx = some (.loop r2)) (h : K (.v (.bool false)) ((bx, .loop { r2 with state := .done, pending := some .ret }) :: st) nx) : wbodyK bx K .ret ⟨tm, ds, st, nx, b0⟩ := by
  simp only [wbodyK, hl]
  exact h
theorem w_rangeN {bx : Nat} {r2 : LoopX} {v : V} (hl : look st bx = some (.loop r2)) (hb : isBusy r2.state = false) (hp : r2.pending = none) (h : Q .normal ⟨tm, ds, (bx, .loop { r2 with state := .exhausted }) :: st, nx, b0⟩) : wrangeK bx tm ds b0 Q v st nx := by
  obtain ⟨t, z, q, a', b', z2, pn⟩ := r2
  simp only at hp hb
  subst hp
  simp only [wrangeK, hl, hb]
  exact h
theorem w_rangeX {bx i : Nat} {r2 : LoopX} {v : V} (hl : look st bx = some (.loop r2)) (hb : isBusy r2.state = false) (hp : r2.pending = some (.exit i)) (h : Q (.exit i) ⟨tm, ds, (bx, .loop { r2 with state := .exhausted }) :: st, nx, b0⟩) : wrangeK bx tm ds b0 Q v st nx := by
  obtain ⟨t, z, q, a', b', z2, pn⟩ := r2
  simp only at hp hb
  subst hp
  simp only [wrangeK, hl, hb]
  exact h
theorem w_rangeR {bx : Nat} {r2 : LoopX} {v : V} (hl : look st bx = some (.loop r2)) (hb : isBusy r2.state = false) (hp : r2.pending = some .ret) (h : Q .ret ⟨tm, ds, (bx, .loop { r2 with state := .exhausted }) :: st, nx, b0⟩) : wrangeK bx tm ds b0 Q v st nx := by
  obtain ⟨t, z, q, a', b', z2, pn⟩ := r2
  simp only at hp hb
  subst hp
  simp only [wrangeK, hl, hb]
  exact h

theorem ws_condTH {x : Operand} {p : Bool} (hp : p = true) (hc : ev tm x = .v (.bool p)) (h1 : wcode P C H sz pins rd a Q ⟨tm, ds, st, nx, b0⟩) : wcode P C H sz pins rd (.cond x a b) Q ⟨tm, ds, st, nx, b0⟩ := ws_condT (by rw [hc, hp]) h1
theorem ws_condFH {x : Operand} {p : Bool} (hp : p = false) (hc : ev tm x = .v (.bool p)) (h1 : wcode P C H sz pins rd b Q ⟨tm, ds, st, nx, b0⟩) : wcode P C H sz pins rd (.cond x a b) Q ⟨tm, ds, st, nx, b0⟩ := ws_condF (by rw [hc, hp]) h1

/-! loops -/
section loops
variable {S E R Γ : Type}
def atK (L : LoopD S E Γ) (kp : ST) (s : S) (g : Γ) : LS := ⟨(L.at_ s g).tm, (L.at_ s g).st ++ kp, (L.at_ s g).nx⟩
theorem ws_loopF {L : LoopD S E Γ} {K : E → Option R} {r : R} {s0 : S} {c : Code} (hF : (loopC L.step s0).bind K = some r) (g0 : Γ) (ren : List (Nat × Nat)) (keep : List Nat) (hs : SubF pins ds rd ren (atK L (keepB keep st) s0 g0).tm (atK L (keepB keep st) s0 g0).st (atK L (keepB keep st) s0 g0).nx tm st)
    (h : ∀ (n : Nat) (s : S) (g : Γ) (x : LoopA L.step K r Γ), x.1.1 = n + 1 → (L.step s).bind (nextF L.step K n) = some r → wcode P C H sz pins rd c (wloopK pins ds rd (fun y : LoopA L.step K r Γ => atK L (keepB keep st) y.1.2.1 y.1.2.2) (fun y => y.1.1) x Q) ⟨(L.at_ s g).tm, ds, (L.at_ s g).st ++ keepB keep st, (L.at_ s g).nx, b0⟩) : wcode P C H sz pins rd (.loop c) Q ⟨tm, ds, st, nx, b0⟩ := by
  obtain ⟨e, he, hk⟩ : ∃ e, loopC L.step s0 = some e ∧ K e = some r := by
    cases hl : loopC L.step s0 with
    | none => rw [hl] at hF; cases hF
    | some e => rw [hl] at hF; exact ⟨e, rfl, hF⟩
  obtain ⟨n, hn⟩ := loopC_ex he
  refine ws_loop (α := LoopA L.step K r Γ) (mk := fun y => atK L (keepB keep st) y.1.2.1 y.1.2.2) (μ := fun y => y.1.1) ⟨⟨(n, s0, g0), by rw [hn]; exact hk⟩, ren, hs⟩ ?_
  rintro ⟨⟨n, s, g⟩, hx⟩
  cases n with
  | zero => cases hx
  | succ n =>
    refine h n s g ⟨(n + 1, s, g), hx⟩ rfl ?_
    simp only [loopN] at hx
    cases hs : L.step s with
    | none => rw [hs] at hx; cases hx
    | some o =>
      rw [hs] at hx
      cases o with
      | inl s' => exact hx
      | inr e => exact hx
theorem kw_loopF {L : LoopD S E Γ} {K : E → Option R} {r : R} {x : LoopA L.step K r Γ} {n : Nat} {s' : S} {kp : ST} (hF : nextF L.step K n (.inl s') = some r) (hx : x.1.1 = n + 1) (g' : Γ) (ren : List (Nat × Nat))
    (hs : SubF pins ds rd ren (atK L kp s' g').tm (atK L kp s' g').st (atK L kp s' g').nx tm st) : wloopK pins ds rd (fun y : LoopA L.step K r Γ => atK L kp y.1.2.1 y.1.2.2) (fun y => y.1.1) x Q .normal ⟨tm, ds, st, nx, b0⟩ :=
  ⟨rfl, (⟨(n, s', g'), hF⟩ : LoopA L.step K r Γ), ren, hs, by show n < x.1.1; omega⟩
end loops
end
/-- The boxes at a loop's head. -/
theorem sW {p : Prop} (c : p := by (repeat (first | exact trivial | refine And.intro (Or.inl ⟨_, _, rfl, rfl, rfl⟩) ?_ | refine And.intro (Or.inr (Or.inl rfl)) ?_ | refine And.intro (Or.inr (Or.inr (Or.inl ⟨_, _, _, _, rfl, rfl, rfl, sC⟩))) ?_ | refine And.intro (Or.inr (Or.inr (Or.inr ⟨rfl, rfl, trivial⟩))) ?_ | refine And.intro (Or.inr (Or.inr (Or.inr ⟨rfl, rfl, rfl⟩))) ?_))) : p := c
/-- All steps that no fact is needed for. -/
theorem sw1 {p q : Prop} (h : q) (c : q → p := by (intro h; (repeat (first | ((with_reducible refine go_ret ?_)) | ((with_reducible refine go_put ?_); (conv => arg 1; whnf)) | ((with_reducible apply go_get); exact rfl; (conv => arg 1; whnf)) | ((with_reducible refine go_req ?_ ?_); exact (of_decide_eq_true rfl); (conv => arg 1; whnf)) | ((with_reducible refine go_req ?_ ?_); exact trivial; (conv => arg 1; whnf)) | ((with_reducible refine go_req ?_ ?_); exact rfl; (conv => arg 1; whnf)) | ((with_reducible refine go_req ?_ ?_); exact (rlen (by intro _; rfl) _); (conv => arg 1; whnf)) | ((with_reducible refine go_req ?_ ?_); exact ⟨rlen (by intro _; rfl) _, by decide⟩; (conv => arg 1; whnf)) | ((with_reducible refine go_reqP ?_ ?_); exact rfl; (conv => arg 1; whnf)) | ((with_reducible refine ops_nil ?_)) | ((with_reducible refine ops_cons ?_ ?_ ?_); exact rfl; exact rfl; (conv => arg 1; whnf)) | ((with_reducible apply ops_take); exact rfl; exact rfl; exact rfl; exact rfl; (conv => arg 1; whnf)) | ((with_reducible apply ops_skip); exact rfl; exact rfl; exact rfl; exact rfl) | ((with_reducible apply ops_skipU); exact rfl; exact rfl; exact rfl; exact rfl) | ((with_reducible refine goT_ret ?_)) | ((with_reducible refine goT_put ?_); (conv => arg 1; whnf)) | ((with_reducible apply goT_get); exact rfl; (conv => arg 1; whnf)) | ((with_reducible refine goT_req ?_ ?_); exact (of_decide_eq_true rfl); (conv => arg 1; whnf)) | ((with_reducible refine goT_req ?_ ?_); exact trivial; (conv => arg 1; whnf)) | ((with_reducible refine goT_req ?_ ?_); exact rfl; (conv => arg 1; whnf)) | ((with_reducible refine goT_req ?_ ?_); exact (rlen (by intro _; rfl) _); (conv => arg 1; whnf)) | ((with_reducible refine goT_req ?_ ?_); exact ⟨rlen (by intro _; rfl) _, by decide⟩; (conv => arg 1; whnf)) | ((with_reducible refine goT_reqP ?_ ?_); exact rfl; (conv => arg 1; whnf)) | ((with_reducible refine d_step ?_ ?_); kernel_rfl) | ((with_reducible refine d_nil ?_)) | ((with_reducible refine d_cons ?_ ?_ ?_); exact rfl; exact rfl; (conv => arg 1; whnf)) | ((conv => arg 6; whnf); (with_reducible refine d_cons ?_ ?_ ?_); exact rfl; exact rfl; (conv => arg 1; whnf)) | ((conv => arg 5; whnf); (with_reducible refine ops_cons ?_ ?_ ?_); exact rfl; exact rfl; (conv => arg 1; whnf)) | ((with_reducible apply d_take); exact rfl; exact rfl; exact rfl; exact rfl; (conv => arg 1; whnf)) | ((with_reducible apply d_skip); exact rfl; exact rfl; exact rfl; exact rfl; (first | exact rfl | kernel_rfl)) | ((with_reducible apply d_skipU); exact rfl; exact rfl; exact rfl; exact rfl; (first | exact rfl | kernel_rfl)) | ((conv => arg 6; whnf); (with_reducible apply d_take); exact rfl; exact rfl; exact rfl; exact rfl; (conv => arg 1; whnf)) | ((conv => arg 6; whnf); (with_reducible apply d_skip); exact rfl; exact rfl; exact rfl; exact rfl; (first | exact rfl | kernel_rfl)) | ((with_reducible refine st_regionD ?_ ?_); kernel_rfl; (conv => arg 6; whnf)) | ((with_reducible refine st_seq ?_)) | ((with_reducible refine st_region rfl rfl ?_); (conv => arg 5; whnf)) | ((with_reducible refine st_block ?_)) | ((with_reducible refine st_skip ?_)) | ((with_reducible refine st_exit ?_)) | ((with_reducible refine st_ret ?_)) | ((with_reducible refine k_seq ?_)) | ((with_reducible refine k_seqX ?_)) | ((with_reducible refine k_seqR ?_)) | ((with_reducible refine k_block ?_)) | ((with_reducible refine k_blockX ?_)) | ((with_reducible refine k_blockY ?_ ?_); exact rfl) | ((with_reducible refine k_blockR ?_)) | ((with_reducible refine k_loopX ?_)) | ((with_reducible refine k_loopR ?_)) | ((with_reducible refine st_condT ?_ ?_); exact rfl) | ((with_reducible refine st_condF ?_ ?_); exact rfl) | ((with_reducible refine wops_k ?_)) | ((with_reducible refine w_reg ?_)) | ((with_reducible refine w_regD ?_)) | ((with_reducible refine wops_nil ?_)) | ((with_reducible refine wops_cons ?_ ?_ ?_); exact rfl; exact rfl) | ((conv => arg 5; whnf); (with_reducible refine wops_cons ?_ ?_ ?_); exact rfl; exact rfl) | ((with_reducible apply wops_take); exact rfl; exact rfl; exact rfl; exact rfl) | ((with_reducible apply wops_skip); exact rfl; exact rfl; exact rfl; exact rfl) | ((with_reducible apply wops_skipU); exact rfl; exact rfl; exact rfl; exact rfl) | ((with_reducible refine wop_plain ?_ ?_); exact rfl; (conv => arg 1; whnf)) | ((with_reducible apply wop_con); exact rfl; exact rfl; exact rfl; (conv => arg 1; whnf)) | ((with_reducible apply wop_inl); exact rfl; exact rfl; exact rfl) | ((with_reducible apply wop_yld); exact rfl; exact rfl) | ((with_reducible refine ws_seq ?_)) | ((with_reducible refine ws_block ?_)) | ((with_reducible refine ws_skip ?_)) | ((with_reducible refine ws_exit ?_)) | ((with_reducible refine ws_ret ?_)) | ((with_reducible refine ws_region rfl ?_); (conv => arg 5; whnf)) | ((with_reducible refine ws_regionD ?_ rfl ?_); kernel_rfl; (conv => arg 6; whnf)) | ((with_reducible refine kw_seq ?_)) | ((with_reducible refine kw_seqX ?_)) | ((with_reducible refine kw_seqR ?_)) | ((with_reducible refine kw_block ?_)) | ((with_reducible refine kw_blockX ?_)) | ((with_reducible refine kw_blockY ?_ ?_); exact rfl) | ((with_reducible refine kw_blockR ?_)) | ((with_reducible refine ws_condT ?_ ?_); exact rfl) | ((with_reducible refine ws_condF ?_ ?_); exact rfl) | ((with_reducible apply ws_range0); exact rfl) | ((with_reducible apply ws_range1); exact rfl; exact rfl) | ((with_reducible apply w_fn); exact rfl; exact rfl; exact rfl) | ((with_reducible apply w_yld); exact rfl; exact rfl; exact rfl; (conv => arg 7; whnf); (conv => arg 9; whnf)) | ((with_reducible apply w_asg); exact rfl; exact rfl) | ((with_reducible apply w_bodyN); exact rfl) | ((with_reducible apply w_bodyX); exact rfl) | ((with_reducible apply w_bodyR); exact rfl) | ((with_reducible apply w_rangeN); exact rfl; exact rfl; exact rfl) | ((with_reducible apply w_rangeX); exact rfl; exact rfl; exact rfl) | ((with_reducible apply w_rangeR); exact rfl; exact rfl; exact rfl) | ((with_reducible apply kw_fn1); exact rfl; exact rfl; exact rfl; (conv => arg 1; whnf)) | ((with_reducible apply kw_fnC); exact rfl; exact rfl; exact rfl; (conv => arg 1; whnf)) | ((with_reducible apply kw_fnN); exact rfl; exact rfl; exact rfl; exact rfl; (conv => arg 1; whnf)))); exact h)) : p := c h

theorem hasIF {P : Program} {C : FuncId → Option Con} {G : XG} (hC : CtxOK P C) (hG : GOK P G) (hmix : P.follows .mixedOrders = true) (n : Nat) {f : FuncId} {fn : Func} {c : Code} (hf : P.funcs[f]? = some fn) (hb : fn.body = some c)
    (hn : (fn.name == "runtime.NumGoroutine") = false) {α β : Type} {F : α → Option β} {enc : α → List V} {er : β → V}
    (h : ∀ x r, (F x).bind some = some r → Nat.ble (enc x).length fn.ntmps = true ∧ wcode P C (wcall P C G n) fn.ntmps 0 none c (wfnK P fn (endI (er r))) ⟨startT (enc x), [], [], 0, 0⟩) : Has P f (conF F enc er) :=
  hasI hC hG hmix n hf hb hn fun x r hF => by
    obtain ⟨h1, h2⟩ := h x r hF
    unfold wfn
    rw [h1]
    exact h2
end Go.Ev
/- Functions that make a list: slices.Clone, slices.Grow of nil. -/
set_option linter.unusedVariables false
namespace Go.Ev
open Go.RowKit

/-- A copy of a list: an empty one may be nil or not. -/
theorem fresh_split {P : Program} {C : FuncId → Option Con} (hC : CtxOK P C) (hmix : P.follows .mixedOrders = true) {f : FuncId} {fn : Func} {c : Code} (hf : P.funcs[f]? = some fn) (hb : fn.body = some c)
    (hn : (fn.name == "runtime.NumGoroutine") = false) {α : Type} {F : List α → Option (List α)} {enc : α → List V} {ty : TypeId} {size : Nat}
    (h1 : ∀ y l r, (F (y :: l)).bind some = some r → 1 ≤ fn.ntmps ∧ awp P C fn.ntmps 0 c (endR fn ty size (.sl (recs enc r) r.length)) (startT [.sl (recs enc (y :: l)) (y :: l).length]) [] 0)
    (h2 : ∀ a cap, 1 ≤ fn.ntmps ∧ awp P C fn.ntmps 0 c (endR fn ty size (.sl [] 0)) (startT [.v (.slice a 0 cap)]) [] 0)
    (h3 : ∀ r, F [] = some r → r = []) : Has P f (conR F (fun l => [.sl (recs enc l) l.length]) (fun r => .sl (recs enc r) r.length) ty size) := by
  refine ⟨?_, enters_ok hf hn (by simp [hb])⟩
  show SoundF P f _ ty size
  rintro ⟨l, r⟩ F0 w vs cs n hF hv hok hres
  have hok : F l = some r := hok
  have hres : V.sl (recs enc r) r.length = .sl cs n := hres
  cases l with
  | cons y l =>
    have hs := soundF_of_awp (con := { α := Unit, enc := fun _ => [.sl (recs enc (y :: l)) (y :: l).length], ok := fun _ => True, res := fun _ => .sl (recs enc r) r.length, frs := .fresh ty size }) (ty := ty) (size := size) hC hmix hf hb
      (fun _ _ => h1 y l r (by rw [hok]; rfl))
    exact hs () F0 w vs cs n hF hv trivial hres
  | nil =>
    have hr := h3 r hok
    subst hr
    have hv : RCs F0 w.heap false [.sl [] 0] vs := hv
    cases vs with
    | nil => simp [RCs] at hv
    | cons x vs =>
      cases vs with
      | cons _ _ => simp [RCs] at hv
      | nil =>
        simp only [RCs] at hv
        obtain ⟨⟨hx, _⟩, _⟩ := hv
        unfold RC at hx
        obtain ⟨a, cap, rfl, _, _, _⟩ := hx
        have hs := soundF_of_awp (con := { α := Unit, enc := fun _ => [.v (.slice a 0 cap)], ok := fun _ => True, res := fun _ => .sl [] 0, frs := .fresh ty size }) (ty := ty) (size := size) hC hmix hf hb (fun _ _ => h2 a cap)
        exact hs () F0 w _ cs n hF ⟨⟨rfl, fun e => by cases e⟩, trivial⟩ trivial hres

/-- The same, made clean where it is handed back. -/
theorem has_keep {P : Program} {f : FuncId} {α β : Type} {F : α → Option β} {enc : α → List V} {er : β → V} {ty : TypeId} {size : Nat} (h : Has P f (conR F enc er ty size)) (he : ∀ r, ∃ cs n, er r = .sl cs n ∧ n * size = cs.length) : Has P f (conF F enc er) := by
  refine ⟨?_, h.2⟩
  show SoundV P f _
  rintro ⟨a, r⟩ F0 w vs hF hv hok
  obtain ⟨cs, n, hres, hlen⟩ := he r
  refine (h.1 (a, r) F0 w vs cs n hF hv hok hres).mono ?_
  rintro e w' ⟨v, F', rfl, hbl, q1, q2, q3, q4⟩
  have hres : (conF F enc er).res (a, r) = .sl cs n := hres
  rcases q4 with ⟨g, cap, cur, p1, rfl, p2, p3, p4, p5, p6, p7, p8, p9⟩ | ⟨rfl, rfl, rfl⟩
  · refine ⟨_, fun k j => F' k j ∨ (k = g ∧ j < cs.length), rfl, hbl, fun k j e => .inl (q1 k j e), ?_, ?_, ?_⟩
    · rintro k j (e | ⟨rfl, _⟩)
      · exact q2 k j e
      · exact .inr p1
    · rintro k j (e | ⟨rfl, _⟩)
      · exact q3 k j e
      · exact p4
    · rw [hres]
      unfold RC
      refine ⟨_, _, rfl, p2, p3, .inr ⟨g, 0, rfl, fun j hj => .inr ⟨rfl, by omega⟩, ?_⟩⟩
      rw [cellsAt_of p5, List.drop_zero]
      exact RCs.mono (fun _ _ => .inl) (Keeps.refl _ _) _ _ p8
  · refine ⟨_, F', rfl, hbl, q1, q2, q3, ?_⟩
    rw [hres]
    unfold RC
    exact ⟨none, 0, rfl, Nat.le_refl _, Nat.zero_le _, .inl rfl⟩

/-- What is asked of a list that is made, calls followed inline. -/
def endIR (ty : TypeId) (size : Nat) (r : V) (v : V) (st : ST) (nx : Nat) : Prop :=
  (∃ b n cs, v = .osl b n ∧ look st b = some (.row ty size cs 0) ∧ n * size = cs.length ∧ r = .sl cs n) ∨ (v = .v (.slice none 0 0) ∧ r = .sl [] 0)
theorem hasIR {P : Program} {C : FuncId → Option Con} {G : XG} (hC : CtxOK P C) (hG : GOK P G) (hmix : P.follows .mixedOrders = true) (n : Nat) {f : FuncId} {fn : Func} {c : Code} (hf : P.funcs[f]? = some fn) (hb : fn.body = some c)
    (hn : (fn.name == "runtime.NumGoroutine") = false) {α β : Type} {F : α → Option β} {enc : α → List V} {er : β → V} {ty : TypeId} {size : Nat}
    (h : ∀ x r, (F x).bind some = some r → Nat.ble (enc x).length fn.ntmps = true ∧ wcode P C (wcall P C G n) fn.ntmps 0 none c (wfnK P fn (endIR ty size (er r))) ⟨startT (enc x), [], [], 0, 0⟩) : Has P f (conR F enc er ty size) := by
  refine ⟨?_, enters_ok hf hn (by simp [hb])⟩
  show SoundF P f _ ty size
  rintro ⟨x, y⟩ F1 w vs cs n' hF hv hok hres
  have hok : F x = some y := hok
  have hres : er y = .sl cs n' := hres
  obtain ⟨hx0, hx1⟩ := h x y (by rw [hok]; rfl)
  have hx : wfn P C (wcall P C G n) fn c (enc x) [] 0 (endIR ty size (er y)) := by
    unfold wfn
    rw [hx0]
    exact hx1
  have hR : RelH (fun k => w.heap.size ≤ k) w F1 (fun _ => none) 0 F1 (fun _ => none) [] w :=
    { htm := fun i => trivial, hsz := rfl, hde := rfl, hst := fun b x hx => by simp at hx, inj := fun b b' g c c' _ _ hm => (by cases hm), fresh := fun b _ => ⟨rfl, rfl⟩, pin := fun b y e => (by cases e), keep := Keeps.refl _ _, f0 := fun _ _ e => e, f1 := fun _ _ e => .inl e, f2 := hF, mlt := fun b g c hm => (by cases hm), below := Own.refl _ _, hb := fun _ e => e }
  have hv' : RVl (fun _ => none) F1 w.heap (enc x) vs := by
    have := RCs_iff.1 hv
    exact ⟨this.1, fun i c x hc hx => RV.of_RC (this.2 i c x hc hx).1⟩
  refine (wfn_ok hC (wcall_ok hC hG hmix n) hmix hf hb hx _ F1 _ w vs hR hv').mono ?_
  rintro e w' ⟨v, F', m', r1, st', top', rfl, hk, hR', hr⟩
  refine ⟨v, F', rfl, hR'.below.below, hR'.f0, hR'.f1, hR'.f2, fresh_end hR' (fun g e => e) hr ?_⟩
  rw [← hres]
  exact hk
end Go.Ev
