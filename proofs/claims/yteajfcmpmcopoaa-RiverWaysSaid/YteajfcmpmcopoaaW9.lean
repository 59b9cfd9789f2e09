/- A part of the proof of RiverWays. -/
import Derived.Test.YteajfcmpmcopoaaProg
import Derived.Test.YteajfcmpmcopoaaW8
/- What the functions do over typed data. -/
set_option linter.unusedVariables false
set_option linter.unusedSimpArgs false
namespace Go.Ev
open Go.Proofs
set_option maxHeartbeats 8000000
set_option maxRecDepth 100000
noncomputable def F_thalweglaw01_in : (TBounds × Int) → Option (Bool) := fun x => match x with
  | (a0, a1) =>
    bif (decide (a1 ≥ a0.Low)) then
      some (decide (a1 ≤ a0.High))
    else
      some false

noncomputable def L_thalweglaw01_RiverWays_1 (a1 : List TPass) (a2 : Int) (y8 : TBounds × Int × Int × Int) (a0 : Tthalweglaw01_Forecast) : LoopD (Int) (Unit ⊕ Bool) (Unit) where
  step := fun s => match s with
    | s17 =>
      bif (decide (s17 < ((a1).length : Int))) then
        (idx? (a1) (s17)).bind fun x27 =>
        bif (decide (x27.Hours.Low < 0)) then
          some (.inr (.inr false))
        else
          bif (decide (x27.Hours.Low > x27.Hours.High)) then
            some (.inr (.inr false))
          else
            (idx? (a0.Sides) (0)).bind fun x28 =>
            bif (decide (x27.Hours.High ≥ ((x28).length : Int))) then
              some (.inr (.inr false))
            else
              (idx? (a1) (s17)).bind fun x29 =>
              (idx? (a1) (s17)).bind fun x30 =>
              (idx? (a1) (s17)).bind fun x31 =>
              (nz? ((wr ((wr (x30.Hours.High - x31.Hours.Low)) + 1)))).bind fun _ =>
              (F_thalweglaw01_copied (a0.River)).bind fun y32 =>
              (F_thalweglaw01_forecast (a0.Sides)).bind fun y33 =>
              (idx? (a1) (s17)).bind fun x34 =>
              (F_river_Depth (y32, y33, x34.Place, (wr (x29.Hours.Low + (Int.tmod (wr (a2)) (wr ((wr (x30.Hours.High - x31.Hours.Low)) + 1))))))).bind fun y35 =>
              bif (y35.2 != 0) then
                some (.inr (.inr false))
              else
                bif (decide (y35.1.Low < y8.1.Low)) then
                  some (.inr (.inr false))
                else
                  bif (y35.1.Low == y8.1.Low) then
                    bif (decide (s17 < y8.2.1)) then
                      some (.inr (.inr false))
                    else
                      bif (s17 == y8.2.1) then
                        bif (decide ((wr (x29.Hours.Low + (Int.tmod (wr (a2)) (wr ((wr (x30.Hours.High - x31.Hours.Low)) + 1))))) < y8.2.2.1)) then
                          some (.inr (.inr false))
                        else
                          some (.inl (wr (s17 + 1)))
                      else
                        some (.inl (wr (s17 + 1)))
                  else
                    some (.inl (wr (s17 + 1)))
      else
        some (.inr (.inl ()))
  at_ := fun s gh => match s, gh with
    | s17, () => ⟨[(1, (V.sl (recs eTPass (a1)) (a1).length)), (2, (V.v (.int .u8 (a2)))), (3, (V.box 0 0)), (6, (V.v (.bool (false)))), (7, (V.box 30 0)), (8, (V.v (.int .i64 (y8.2.1)))), (9, (V.v (.int .i64 (y8.2.2.1)))), (12, (V.v (.int .i64 (s17))))], [(0, Bx.var [(V.sl (recs eTReach (a0.River.Reaches)) (a0.River.Reaches).length), (V.sl (recs eTShoal (a0.River.Shoals)) (a0.River.Shoals).length), (V.sl (recs (eS eTBounds) (a0.Sides)) (a0.Sides).length)] false), (30, Bx.var [(V.v (.int .i64 (y8.1.Low))), (V.v (.int .i64 (y8.1.High)))] false)], 31⟩
noncomputable def L_thalweglaw01_RiverWays_2 (a2 : Int) (a0 : Tthalweglaw01_Forecast) (y8 : TBounds × Int × Int × Int) : LoopD (Int × (List TPass)) (((List TPass))) (Unit) where
  step := fun s => match s with
    | (s47, s48) =>
      bif (decide (s47 < ((s48).length : Int))) then
        (idx? (s48) (s47)).bind fun x60 =>
        (idx? (s48) (s47)).bind fun x62 =>
        (set? (s48) (s47) ((⟨x62.Place, (⟨(minmax true 0 (wr (x60.Hours.Low - (Int.tmod (wr (a2)) 5)))), x62.Hours.High⟩ : TBounds)⟩ : TPass))).bind fun l64 =>
        (idx? (a0.Sides) (0)).bind fun x65 =>
        (idx? (l64) (s47)).bind fun x66 =>
        (idx? (l64) (s47)).bind fun x68 =>
        (set? (l64) (s47) ((⟨x68.Place, (⟨x68.Hours.Low, (minmax false (wr (((x65).length : Int) - 1)) (wr (x66.Hours.High + (Int.tmod (wr (a2)) 4))))⟩ : TBounds)⟩ : TPass))).bind fun l70 =>
        some (.inl ((wr (s47 + 1)), l70))
      else
        some (.inr s48)
  at_ := fun s gh => match s, gh with
    | (s47, s48), () => ⟨[(2, (V.v (.int .u8 (a2)))), (3, (V.box 0 0)), (6, (V.v (.bool (false)))), (7, (V.box 30 0)), (26, (V.osl 110 (s48).length)), (27, (V.v (.int .i64 (s47))))], [(0, Bx.var [(V.sl (recs eTReach (a0.River.Reaches)) (a0.River.Reaches).length), (V.sl (recs eTShoal (a0.River.Shoals)) (a0.River.Shoals).length), (V.sl (recs (eS eTBounds) (a0.Sides)) (a0.Sides).length)] false), (30, Bx.var [(V.v (.int .i64 (y8.1.Low))), (V.v (.int .i64 (y8.1.High)))] false), (110, Bx.row 77 3 (recs eTPass (s48)) 0)], 111⟩
noncomputable def L_thalweglaw01_RiverWays_3 (a2 : Int) (a0 : Tthalweglaw01_Forecast) (y8 : TBounds × Int × Int × Int) : LoopD (Int × (List TPass)) (((List TPass))) (Unit) where
  step := fun s => match s with
    | (s77, s78) =>
      bif (decide (s77 < ((s78).length : Int))) then
        (idx? (s78) (s77)).bind fun x90 =>
        (idx? (s78) (s77)).bind fun x92 =>
        (set? (s78) (s77) ((⟨x92.Place, (⟨(minmax true 0 (wr (x90.Hours.Low - (Int.tmod (wr (a2)) 5)))), x92.Hours.High⟩ : TBounds)⟩ : TPass))).bind fun l94 =>
        (idx? (a0.Sides) (0)).bind fun x95 =>
        (idx? (l94) (s77)).bind fun x96 =>
        (idx? (l94) (s77)).bind fun x98 =>
        (set? (l94) (s77) ((⟨x98.Place, (⟨x98.Hours.Low, (minmax false (wr (((x95).length : Int) - 1)) (wr (x96.Hours.High + (Int.tmod (wr (a2)) 4))))⟩ : TBounds)⟩ : TPass))).bind fun l100 =>
        some (.inl ((wr (s77 + 1)), l100))
      else
        some (.inr s78)
  at_ := fun s gh => match s, gh with
    | (s77, s78), () => ⟨[(2, (V.v (.int .u8 (a2)))), (3, (V.box 0 0)), (6, (V.v (.bool (false)))), (7, (V.box 30 0)), (26, (V.osl 45 (s78).length)), (27, (V.v (.int .i64 (s77))))], [(0, Bx.var [(V.sl (recs eTReach (a0.River.Reaches)) (a0.River.Reaches).length), (V.sl (recs eTShoal (a0.River.Shoals)) (a0.River.Shoals).length), (V.sl (recs (eS eTBounds) (a0.Sides)) (a0.Sides).length)] false), (30, Bx.var [(V.v (.int .i64 (y8.1.Low))), (V.v (.int .i64 (y8.1.High)))] false), (45, Bx.row 77 3 (recs eTPass (s78)) 0)], 46⟩
noncomputable def F_thalweglaw01_RiverWays : (Tthalweglaw01_Forecast × (List TPass) × Int) → Option (Bool) := fun x => match x with
  | (a0, a1, a2) =>
    (F_thalweglaw01_valid (a0)).bind fun y1 =>
    bif (!y1) then
      (F_thalweglaw01_known ()).bind fun y2 =>
      some y2
    else
      bif (decide (((a1).length : Int) < 1)) then
        (F_thalweglaw01_known ()).bind fun y3 =>
        some y3
      else
        bif (decide (((a1).length : Int) > 20)) then
          (F_thalweglaw01_known ()).bind fun y4 =>
          some y4
        else
          (F_thalweglaw01_copied (a0.River)).bind fun y5 =>
          (F_thalweglaw01_forecast (a0.Sides)).bind fun y6 =>
          (app? (([] : List TPass)) (a1) 24).bind fun l7 =>
          (F_river_Shallowest (y5, y6, l7)).bind fun y8 =>
          bif (y8.2.2.2 != 0) then
            bif (y8.2.2.2 == 7) then
              bif (y8.2.1 == 0) then
                bif (y8.2.2.1 == 0) then
                  (F_thalweglaw01_known ()).bind fun y9 =>
                  some y9
                else
                  some false
              else
                some false
            else
              bif (y8.2.2.2 == 3) then
                bif (y8.2.1 == 0) then
                  bif (y8.2.2.1 == 0) then
                    (F_thalweglaw01_known ()).bind fun y10 =>
                    some y10
                  else
                    some false
                else
                  some false
              else
                some false
          else
            bif (decide (y8.2.1 < 0)) then
              some false
            else
              bif (decide (y8.2.1 ≥ ((a1).length : Int))) then
                some false
              else
                (idx? (a1) (y8.2.1)).bind fun x11 =>
                (F_thalweglaw01_in (x11.Hours, y8.2.2.1)).bind fun y12 =>
                bif (!y12) then
                  some false
                else
                  bif (decide (y8.1.Low < 0)) then
                    some false
                  else
                    bif (decide (y8.1.Low > y8.1.High)) then
                      some false
                    else
                      (F_thalweglaw01_copied (a0.River)).bind fun y13 =>
                      (F_thalweglaw01_forecast (a0.Sides)).bind fun y14 =>
                      (idx? (a1) (y8.2.1)).bind fun x15 =>
                      (F_river_Depth (y13, y14, x15.Place, y8.2.2.1)).bind fun y16 =>
                      bif (y16.2 != 0) then
                        some false
                      else
                        bif (y16.1.Low != y8.1.Low) then
                          some false
                        else
                          (loopC (L_thalweglaw01_RiverWays_1 a1 a2 y8 a0).step 0).bind fun e => match e with
                          | (.inl ()) =>
                            (nz? (((a1).length : Int))).bind fun _ =>
                            bif (decide ((Int.tmod (wr (a2)) ((a1).length : Int)) > 0)) then
                              (F_thalweglaw01_copied (a0.River)).bind fun y36 =>
                              (F_thalweglaw01_forecast (a0.Sides)).bind fun y37 =>
                              (slc? (a1) (0) ((Int.tmod (wr (a2)) ((a1).length : Int)))).bind fun l38 =>
                              (app? (([] : List TPass)) (l38) 24).bind fun l39 =>
                              (F_river_Shallowest (y36, y37, l39)).bind fun y40 =>
                              (F_thalweglaw01_copied (a0.River)).bind fun y41 =>
                              (F_thalweglaw01_forecast (a0.Sides)).bind fun y42 =>
                              (slc? (a1) ((Int.tmod (wr (a2)) ((a1).length : Int))) (((a1).length : Int))).bind fun l43 =>
                              (app? (([] : List TPass)) (l43) 24).bind fun l44 =>
                              (F_river_Shallowest (y41, y42, l44)).bind fun y45 =>
                              bif (y40.2.2.2 != 0) then
                                some false
                              else
                                bif (y45.2.2.2 != 0) then
                                  some false
                                else
                                  bif (!(y8.1.Low == (minmax false y40.1.Low y45.1.Low) && (y8.1.High == (minmax false y40.1.High y45.1.High) && true))) then
                                    some false
                                  else
                                    (app? (([] : List TPass)) (a1) 24).bind fun l46 =>
                                    (loopC (L_thalweglaw01_RiverWays_2 a2 a0 y8).step (0, l46)).bind fun e => match e with
                                    | s71 =>
                                      (F_thalweglaw01_copied (a0.River)).bind fun y72 =>
                                      (F_thalweglaw01_forecast (a0.Sides)).bind fun y73 =>
                                      (F_river_Shallowest (y72, y73, s71)).bind fun y74 =>
                                      bif (y74.2.2.2 == 0) then
                                        bif (decide (y74.1.Low ≤ y8.1.Low)) then
                                          bif (decide (y74.1.High ≥ y8.1.High)) then
                                            (F_thalweglaw01_known ()).bind fun y75 =>
                                            some y75
                                          else
                                            some false
                                        else
                                          some false
                                      else
                                        some false
                            else
                              (app? (([] : List TPass)) (a1) 24).bind fun l76 =>
                              (loopC (L_thalweglaw01_RiverWays_3 a2 a0 y8).step (0, l76)).bind fun e => match e with
                              | s101 =>
                                (F_thalweglaw01_copied (a0.River)).bind fun y102 =>
                                (F_thalweglaw01_forecast (a0.Sides)).bind fun y103 =>
                                (F_river_Shallowest (y102, y103, s101)).bind fun y104 =>
                                bif (y104.2.2.2 == 0) then
                                  bif (decide (y104.1.Low ≤ y8.1.Low)) then
                                    bif (decide (y104.1.High ≥ y8.1.High)) then
                                      (F_thalweglaw01_known ()).bind fun y105 =>
                                      some y105
                                    else
                                      some false
                                  else
                                    some false
                                else
                                  some false
                          | (.inr r106) =>
                            some r106
end Go.Ev
/- What the arguments of the law are. -/
set_option linter.unusedVariables false
set_option linter.unusedSimpArgs false
namespace Go.Ev
open Go.Proofs
set_option maxRecDepth 100000
def kIu8 (i : Int) : Prop := IntKind.u8.min ≤ i ∧ i ≤ IntKind.u8.max
theorem typ_Iu8_5 {n : Nat} {vs : List V} (h : Typ Try.prog (n + 1) 5 vs) : ∃ x : Int, vs = [(V.v (.int .u8 (x)))] ∧ kIu8 (x) := by
  simp only [Typ, Try.underlying5] at h
  obtain ⟨i, rfl, hw⟩ := h
  refine ⟨i, rfl, ?_⟩
  simp only [Lit.wf, Bool.and_eq_true, decide_eq_true_eq] at hw
  exact hw
end Go.Ev
/- Elements of arrays, by an index that is not written: by cases. -/
namespace Go.Ev
theorem ib_ok {j : Int} {c n : Nat} (e : j = (c : Int)) (hc : decide (c < n) = true) : 0 ≤ j ∧ j < (n : Int) := by
  have := of_decide_eq_true hc
  omega
theorem ib_nat {j : Int} {c : Nat} (e : j = (c : Int)) : j.toNat = c := by omega
variable {P : Program} {st : ST} {rs ws : List Nat}
theorem o_ib {K : V → ST → Prop} {j : Int} {c n b off size : Nat} {d : Decidable (0 ≤ j ∧ j < (n : Int))} (e : j = (c : Int)) (hc : decide (c < n) = true)
    (h : (RM.ret (.box b (off + c * size))).go st K) : (@RM.dec (0 ≤ j ∧ j < (n : Int)) (.ret (.box b (off + j.toNat * size))) d).go st K :=
  go_req (ib_ok e hc) (by rw [ib_nat e]; exact h)
theorem o_ibT {K : V → ST → List Nat → List Nat → Prop} {j : Int} {c n b off size : Nat} {d : Decidable (0 ≤ j ∧ j < (n : Int))} (e : j = (c : Int)) (hc : decide (c < n) = true)
    (h : (RM.ret (.box b (off + c * size))).goT st rs ws K) : (@RM.dec (0 ≤ j ∧ j < (n : Int)) (.ret (.box b (off + j.toNat * size))) d).goT st rs ws K :=
  goT_req (ib_ok e hc) (by rw [ib_nat e]; exact h)
theorem o_ix {K : V → ST → Prop} {j : Int} {c n size : Nat} {t : TypeId} {cs : List V} {f : V → RM} {d : Decidable (0 ≤ j ∧ j < (n : Int))} (e : j = (c : Int)) (hc : decide (c < n) = true)
    (h : (takeR P t cs (c * size) f).go st K) : (@RM.dec (0 ≤ j ∧ j < (n : Int)) (takeR P t cs (j.toNat * size) f) d).go st K :=
  go_req (ib_ok e hc) (by rw [ib_nat e]; exact h)
theorem o_ixT {K : V → ST → List Nat → List Nat → Prop} {j : Int} {c n size : Nat} {t : TypeId} {cs : List V} {f : V → RM} {d : Decidable (0 ≤ j ∧ j < (n : Int))} (e : j = (c : Int)) (hc : decide (c < n) = true)
    (h : (takeR P t cs (c * size) f).goT st rs ws K) : (@RM.dec (0 ≤ j ∧ j < (n : Int)) (takeR P t cs (j.toNat * size) f) d).goT st rs ws K :=
  goT_req (ib_ok e hc) (by rw [ib_nat e]; exact h)
/-! stores at two offsets -/
theorem o_stBT {α : Type} {enc : α → List V} {s o n : Nat} {l r : List α} {j : Int} {a x : α} {new : List V} {b : Nat} {e : TypeId} {d : Decidable (new.length = n ∧ j.toNat * s + o + n ≤ (recs enc l).length ∧ 0 ≤ j.toNat * s + o)} {K : V → ST → List Nat → List Nat → Prop} (hi : idx? l j = some a) (h : set? l j x = some r) (he : ∀ a, (enc a).length = s) (ho : o + n ≤ s)
    (hn : new.length = n) (hb : (enc a).take o ++ new ++ (enc a).drop (o + n) = enc x)
    (hk : (RM.ret .top).goT ((b, .row e s (recs enc r) 0) :: st) rs (b :: ws) K) : (@RM.dec (new.length = n ∧ j.toNat * s + o + n ≤ (recs enc l).length ∧ 0 ≤ j.toNat * s + o) (.put b (.row e s ((recs enc l).take (j.toNat * s + o) ++ new ++ (recs enc l).drop (j.toNat * s + o + n)) 0) (.ret .top)) d).goT st rs ws K := by
  obtain ⟨h1, h2⟩ := set_eq (o := o) hi h he ho hn hb
  rw [h2]; exact ⟨h1, hk⟩
theorem o_stC {α : Type} {enc : α → List V} {s o o2 n : Nat} {l r : List α} {j : Int} {a x : α} {new : List V} {b : Nat} {e : TypeId} {d : Decidable (new.length = n ∧ j.toNat * s + o + o2 + n ≤ (recs enc l).length ∧ 0 ≤ j.toNat * s + o + o2)} {K : V → ST → Prop} (hi : idx? l j = some a) (h : set? l j x = some r) (he : ∀ a, (enc a).length = s) (ho : (o + o2) + n ≤ s)
    (hn : new.length = n) (hb : (enc a).take (o + o2) ++ new ++ (enc a).drop ((o + o2) + n) = enc x)
    (hk : (RM.ret .top).go ((b, .row e s (recs enc r) 0) :: st) K) : (@RM.dec (new.length = n ∧ j.toNat * s + o + o2 + n ≤ (recs enc l).length ∧ 0 ≤ j.toNat * s + o + o2) (.put b (.row e s ((recs enc l).take (j.toNat * s + o + o2) ++ new ++ (recs enc l).drop (j.toNat * s + o + o2 + n)) 0) (.ret .top)) d).go st K := by
  obtain ⟨h1, h2⟩ := set_eq (o := (o + o2)) hi h he ho hn hb
  simp only [← Nat.add_assoc] at h1 h2
  rw [h2]; exact ⟨h1, hk⟩
theorem o_stCT {α : Type} {enc : α → List V} {s o o2 n : Nat} {l r : List α} {j : Int} {a x : α} {new : List V} {b : Nat} {e : TypeId} {d : Decidable (new.length = n ∧ j.toNat * s + o + o2 + n ≤ (recs enc l).length ∧ 0 ≤ j.toNat * s + o + o2)} {K : V → ST → List Nat → List Nat → Prop} (hi : idx? l j = some a) (h : set? l j x = some r) (he : ∀ a, (enc a).length = s) (ho : (o + o2) + n ≤ s)
    (hn : new.length = n) (hb : (enc a).take (o + o2) ++ new ++ (enc a).drop ((o + o2) + n) = enc x)
    (hk : (RM.ret .top).goT ((b, .row e s (recs enc r) 0) :: st) rs (b :: ws) K) : (@RM.dec (new.length = n ∧ j.toNat * s + o + o2 + n ≤ (recs enc l).length ∧ 0 ≤ j.toNat * s + o + o2) (.put b (.row e s ((recs enc l).take (j.toNat * s + o + o2) ++ new ++ (recs enc l).drop (j.toNat * s + o + o2 + n)) 0) (.ret .top)) d).goT st rs ws K := by
  obtain ⟨h1, h2⟩ := set_eq (o := (o + o2)) hi h he ho hn hb
  simp only [← Nat.add_assoc] at h1 h2
  rw [h2]; exact ⟨h1, hk⟩
/-- An element of a list that has been written to: it is as long as it was. -/
theorem oidx_len {α : Type} {l l0 : List α} {j : Int} {a : α} {s : Nat} (h : idx? l j = some a) (hl : l.length = l0.length) (hs : 0 < s) : 0 ≤ j ∧ j < (l0.length : Int) ∧ 0 < s := by
  have := oidx_ok h hs
  rw [hl] at this
  exact this
end Go.Ev
