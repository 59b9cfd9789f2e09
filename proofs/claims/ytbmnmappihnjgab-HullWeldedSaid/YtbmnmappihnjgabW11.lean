/- A part of the proof of HullWelded. -/
import Derived.Test.YtbmnmappihnjgabW10
/- Chapter 2: the law HullWelded is true. -/
set_option linter.unusedVariables false
set_option linter.unusedSimpArgs false
namespace Go.Ev
set_option maxHeartbeats 2000000

theorem clone_row {l : List THullRow} (hl : l.length ≤ 1000) : F_slices_Clone_L_HullRow_HullRow l = some l := by
  simp only [F_slices_Clone_L_HullRow_HullRow]
  rw [app_nil (m := l) (n := 16) (by omega) (by decide)]
  rfl
theorem clone_hold {l : List THullHold} (hl : l.length ≤ 1000) : F_slices_Clone_L_HullHold_HullHold l = some l := by
  simp only [F_slices_Clone_L_HullHold_HullHold]
  rw [app_nil (m := l) (n := 16) (by omega) (by decide)]
  rfl
theorem build_eq {lot : Int} {l : List THullSection} (hs : small l) : F_hull_build (lot, l) = some ⟨lot, l⟩ := by
  have h10 := hs.1
  have hloop : loopC (L_hull_build_1 l lot).step (0, ([] : List THullSection)) = some l := by
    refine loop_run (fun k : Nat => ((k : Int), l.take k)) l.length (e := l) (fun k hk => ?_) ?_
    · have hb := hs.2 _ (List.getElem_mem hk)
      simp only [L_hull_build_1, Int.ofNat_lt, hk, decide_true, cond_true, idx?_nat hk, Option.bind_some]
      rw [clone_row (by omega), clone_hold (by omega)]
      simp only [Option.bind_some]
      rw [app_of (by simp; omega) (by decide), wr_nat (by omega)]
      simp only [Option.bind_some, List.take_succ_eq_append_getElem hk]
    · simp [L_hull_build_1]
  simp only [F_hull_build, hloop]
  rfl
theorem concat_eq {a b : List THullSection} (ha : a.length ≤ 1000) (hb : b.length ≤ 1000) : F_slices_Concat_L_HullSection_HullSection [a, b] = some (a ++ b) := by
  have h1 : loopC (L_slices_Concat_L_HullSection_HullSection_1 [a, b]).step (0, 0) = some ((a.length : Int) + b.length) := by
    rw [show ((0 : Int), (0 : Int)) = ((fun k : Nat => ((if k = 0 then 0 else if k = 1 then (a.length : Int) else a.length + b.length), (k : Int))) 0) from rfl]
    refine loop_run (fun k : Nat => ((if k = 0 then 0 else if k = 1 then (a.length : Int) else a.length + b.length), (k : Int))) 2 (fun k hk => ?_) ?_
    · rcases (show k = 0 ∨ k = 1 by omega) with rfl | rfl
      · simp only [L_slices_Concat_L_HullSection_HullSection_1]
        rw [show decide (((0 : Nat) : Int) < (([a, b] : List (List THullSection)).length : Int)) = true from rfl, show idx? [a, b] ((0 : Nat) : Int) = some a from rfl]
        simp only [cond_true, Option.bind_some, if_true]
        rw [wr_in (n := 0 + (a.length : Int)) (by omega) (by omega), show decide (0 + (a.length : Int) < 0) = false from decide_eq_false (by omega), wr_nat (by omega)]
        simp
      · simp only [L_slices_Concat_L_HullSection_HullSection_1]
        rw [show decide (((1 : Nat) : Int) < (([a, b] : List (List THullSection)).length : Int)) = true from rfl, show idx? [a, b] ((1 : Nat) : Int) = some b from rfl]
        simp only [cond_true, Option.bind_some, if_true, show ¬ (1 : Nat) = 0 by omega, if_false]
        rw [wr_in (n := (a.length : Int) + b.length) (by omega) (by omega), show decide ((a.length : Int) + b.length < 0) = false from decide_eq_false (by omega), wr_nat (by omega)]
        simp
    · simp [L_slices_Concat_L_HullSection_HullSection_1]
  have h2 : F_slices_Grow_L_HullSection_HullSection (([] : List THullSection), (a.length : Int) + b.length) = some [] := by
    unfold F_slices_Grow_L_HullSection_HullSection
    rw [if_pos ⟨rfl, by simp; omega, by simp; omega⟩]
  have h3 : loopC (L_slices_Concat_L_HullSection_HullSection_2 [a, b]).step (0, ([] : List THullSection)) = some (a ++ b) := by
    refine loop_run (fun k : Nat => ((k : Int), if k = 0 then [] else if k = 1 then a else a ++ b)) 2 (fun k hk => ?_) ?_
    · rcases (show k = 0 ∨ k = 1 by omega) with rfl | rfl
      · simp only [L_slices_Concat_L_HullSection_HullSection_2]
        rw [show decide (((0 : Nat) : Int) < (([a, b] : List (List THullSection)).length : Int)) = true from rfl, show idx? [a, b] ((0 : Nat) : Int) = some a from rfl]
        simp only [cond_true, Option.bind_some, if_true]
        rw [app_nil (m := a) (by omega) (by decide), wr_nat (by omega)]
        simp
      · simp only [L_slices_Concat_L_HullSection_HullSection_2]
        rw [show decide (((1 : Nat) : Int) < (([a, b] : List (List THullSection)).length : Int)) = true from rfl, show idx? [a, b] ((1 : Nat) : Int) = some b from rfl]
        simp only [cond_true, Option.bind_some, if_true, show ¬ (1 : Nat) = 0 by omega, if_false]
        rw [app_of (by omega) (by decide), wr_nat (by omega)]
        simp
    · simp [L_slices_Concat_L_HullSection_HullSection_2]
  simp only [F_slices_Concat_L_HullSection_HullSection, h1, Option.bind_some, h2, h3]
  try rfl
/-- A part of the sections. -/
theorem SmH.part {h : THull} (hs : SmH h) {l : List THullSection} (h1 : 1 ≤ l.length) (h4 : l.length ≤ 4) (hm : ∀ x ∈ l, x ∈ h.Sections) : SmH ⟨h.Lot, l⟩ := ⟨hs.lot, ⟨h1, h4⟩, fun s hx => hs.sec s (hm s hx)⟩
theorem Check_sm {h : THull} (hs : SmH h) : F_hull_Check h = some 0 := by rw [Check_eq hs.small, hs.ok]; rfl
theorem Cut_eq {h : THull} (hs : SmH h) {a b : Nat} (hab : a < b) (hb : b ≤ h.Sections.length) (hn : b - a < h.Sections.length) : F_hull_Cut (h, (a : Int), (b : Int)) = some (⟨h.Lot, h.Sections.take a ++ h.Sections.drop b⟩, 0) := by
  have h4 := hs.one
  simp only [F_hull_Cut, Check_sm hs, Option.bind_some, bne_self_eq_false, cond_false, within2]
  rw [show inB (a : Int) 0 (h.Sections.length : Int) = true from inB_iff.2 (by omega), show inB (b : Int) 0 (h.Sections.length : Int) = true from inB_iff.2 (by omega), show decide ((a : Int) ≥ (b : Int)) = false from decide_eq_false (by omega), wr_in (n := (b : Int) - a) (by omega) (by omega),
    show ((b : Int) - a == (h.Sections.length : Int)) = false from by rw [beq_eq_false_iff_ne]; omega]
  simp only [Bool.and_self, Bool.not_true, cond_false]
  rw [show (0 : Int) = ((0 : Nat) : Int) from rfl, slc?_nat (j := 0) (k := a) (by omega) (by omega), slc?_nat (j := b) (k := h.Sections.length) hb (Nat.le_refl _)]
  simp only [Option.bind_some, List.drop_zero, Nat.sub_zero]
  rw [show (h.Sections.drop b).take (h.Sections.length - b) = h.Sections.drop b from List.take_of_length_le (by simp)]
  rw [concat_eq (by rw [List.length_take]; omega) (by rw [List.length_drop]; omega)]
  simp only [Option.bind_some]
  rw [build_eq]
  · rfl
  · refine ⟨by simp; omega, fun x hx => ?_⟩
    rw [List.mem_append] at hx
    exact hs.small.2 x (hx.elim List.mem_of_mem_take List.mem_of_mem_drop)
theorem Weld_eq {a b : THull} (ha : SmH a) (hb : SmH b) (hl : a.Lot = b.Lot) (hc : SmH ⟨a.Lot, a.Sections ++ b.Sections⟩) : F_hull_Weld (a, b) = some (⟨a.Lot, a.Sections ++ b.Sections⟩, 0) := by
  have h1 := ha.one
  have h2 := hb.one
  simp only [F_hull_Weld, Check_sm ha, Check_sm hb, Option.bind_some, bne_self_eq_false, cond_false, hl]
  rw [concat_eq (by omega) (by omega)]
  simp only [Option.bind_some]
  rw [build_eq hc.small]
  simp only [Option.bind_some]
  rw [← hl, Check_sm hc]
  rfl
theorem row_self (x : THullRow) : (x.Draft == x.Draft && (x.Volume == x.Volume && true)) = true := by simp
theorem hold_self (x : THullHold) : (x.At == x.At && (x.Lots == x.Lots && true)) = true := by simp
theorem same_eq {h : THull} (hs : small h.Sections) : F_thalweglaw02_same (h, h) = some true := by
  have hloop : loopC (L_thalweglaw02_same_3 h h).step 0 = some (.inl ()) := by
    refine loop_run (E := Unit ⊕ Bool) (fun k : Nat => (k : Int)) h.Sections.length (e := .inl ()) (fun k hk => ?_) ?_
    · have h10 := hs.1
      have hb := hs.2 _ (List.getElem_mem hk)
      have l1 : loopC (L_thalweglaw02_same_1 (k : Int) h h h.Sections[k] h.Sections[k]).step 0 = some (.inl ()) := by
        refine loop_run (E := Unit ⊕ Bool) (fun j : Nat => (j : Int)) h.Sections[k].Curve.length (e := .inl ()) (fun j hj => ?_) ?_
        · simp only [L_thalweglaw02_same_1, Int.ofNat_lt, hj, decide_true, cond_true, idx?_nat hj, Option.bind_some, row_self, Bool.not_true, cond_false]
          rw [wr_nat (by omega)]
        · simp [L_thalweglaw02_same_1]
      have l2 : loopC (L_thalweglaw02_same_2 (k : Int) h h h.Sections[k] h.Sections[k]).step 0 = some (.inl ()) := by
        refine loop_run (E := Unit ⊕ Bool) (fun j : Nat => (j : Int)) h.Sections[k].Holds.length (e := .inl ()) (fun j hj => ?_) ?_
        · simp only [L_thalweglaw02_same_2, Int.ofNat_lt, hj, decide_true, cond_true, idx?_nat hj, Option.bind_some, hold_self, Bool.not_true, cond_false]
          rw [wr_nat (by omega)]
        · simp [L_thalweglaw02_same_2]
      simp only [L_thalweglaw02_same_3, Int.ofNat_lt, hk, decide_true, cond_true, idx?_nat hk, Option.bind_some, bne_self_eq_false, cond_false, l1, l2]
      rw [wr_nat (by omega)]
    · simp [L_thalweglaw02_same_3]
  simp only [F_thalweglaw02_same, bne_self_eq_false, cond_false, hloop]
  rfl
theorem lim_iff : ∀ (m : List THullSection) (l d : Int), d ≤ limS m l ↔ d ≤ l ∧ ∀ x ∈ m, d ≤ lastD x
  | [], l, d => by simp [limS]
  | x :: m, l, d => by
    have h := lim_iff m (minmax false l (lastD x)) d
    have e : d ≤ minmax false l (lastD x) ↔ d ≤ l ∧ d ≤ lastD x := by
      simp only [minmax, Bool.false_eq_true, if_false]; split <;> omega
    rw [limS, h, e]
    simp only [List.mem_cons, forall_eq_or_imp]
    constructor
    · rintro ⟨⟨a, b⟩, c⟩; exact ⟨a, b, c⟩
    · rintro ⟨a, b, c⟩; exact ⟨⟨a, b⟩, c⟩
theorem lim_app (a b : List THullSection) (d : Int) : inB d 0 (limS (a ++ b) 1000) = (inB d 0 (limS a 1000) && inB d 0 (limS b 1000)) := by
  rw [Bool.eq_iff_iff, Bool.and_eq_true, inB_iff, inB_iff, inB_iff, lim_iff, lim_iff, lim_iff]
  simp only [List.mem_append]
  constructor
  · rintro ⟨h0, h1, h2⟩; exact ⟨⟨h0, h1, fun x hx => h2 x (.inl hx)⟩, h0, h1, fun x hx => h2 x (.inr hx)⟩
  · rintro ⟨⟨h0, h1, h2⟩, _, _, h3⟩; exact ⟨h0, h1, fun x hx => hx.elim (h2 x) (h3 x)⟩
theorem vol_app : ∀ (a b : List THullSection) (d : Int), volS (a ++ b) d = volS a d + volS b d
  | [], b, d => by simp [volS]
  | x :: a, b, d => by rw [List.cons_append, volS, volS, vol_app a b d]; omega
theorem Vol_cases {h : THull} (hs : SmH h) (d : Int) : F_hull_Volume (h, d) = some (bif inB d 0 (limS h.Sections 1000) then (volS h.Sections d, 0) else (0, 3)) := by
  rw [Volume_eq hs.small, hs.ok]; rfl

theorem welded_true {x : Tthalweglaw02_Small} {at_ draft : Int} (hk : SmK x) (h1 : byte at_) (h2 : byte draft) : F_thalweglaw02_HullWelded (x, at_, draft) = some true := by
  have hs := hullV_sm hk (m := 4) (by omega) (by omega)
  have eh : F_thalweglaw02_Small_hull (x, 4) = some (hullV x 4) := hull_eq x (m := 4) (by omega) (by omega)
  generalize hullV x 4 = h at hs eh
  have hone := hs.one
  have hown := own_eq hs.small
  simp only [F_thalweglaw02_HullWelded, eh, Option.bind_some, hown, knownZ_eq]
  by_cases c : h.Sections.length < 2
  · rw [show decide ((h.Sections.length : Int) < 2) = true from decide_eq_true (by omega)]
    simp only [cond_true]
    have e1 : h.Sections.length = 1 := by omega
    have ec : F_hull_Cut (h, 0, 1) = some (⟨0, []⟩, 4) := by
      simp only [F_hull_Cut, Check_sm hs, Option.bind_some, bne_self_eq_false, cond_false, within2, e1]
      rfl
    rw [ec]
    rfl
  · rw [show decide ((h.Sections.length : Int) < 2) = false from decide_eq_false (by omega), wr_in (n := (h.Sections.length : Int) - 1) (by omega) (by omega), wr_in (n := at_) (by omega) (by omega), wr_in (n := draft) (by omega) (by omega), wr_in (n := 2 * draft) (by omega) (by omega)]
    have hm := tmod_byte (m := (h.Sections.length : Int) - 1) h1 (by omega)
    rw [wr_in (n := 1 + at_.tmod ((h.Sections.length : Int) - 1)) (by omega) (by omega)]
    obtain ⟨k, ek⟩ := Int.eq_ofNat_of_zero_le (show 0 ≤ 1 + at_.tmod ((h.Sections.length : Int) - 1) by omega)
    rw [ek]
    have hk1 : 1 ≤ k ∧ k < h.Sections.length := by omega
    simp only [cond_false, nz_of (show (h.Sections.length : Int) - 1 ≠ 0 by omega), Option.bind_some]
    have c1 := Cut_eq hs (a := k) (b := h.Sections.length) hk1.2 (Nat.le_refl _) (by omega)
    have c2 : F_hull_Cut (h, 0, (k : Int)) = some (⟨h.Lot, h.Sections.drop k⟩, 0) := by
      have := Cut_eq hs (a := 0) (b := k) (by omega) (by omega) (by omega)
      simpa using this
    rw [List.drop_length, List.append_nil] at c1
    have sa : SmH ⟨h.Lot, h.Sections.take k⟩ := hs.part (by rw [List.length_take]; omega) (by rw [List.length_take]; omega) fun x hx => List.mem_of_mem_take hx
    have sb : SmH ⟨h.Lot, h.Sections.drop k⟩ := hs.part (by rw [List.length_drop]; omega) (by rw [List.length_drop]; omega) fun x hx => List.mem_of_mem_drop hx
    have ew : F_hull_Weld (⟨h.Lot, h.Sections.take k⟩, ⟨h.Lot, h.Sections.drop k⟩) = some (h, 0) := by
      have := Weld_eq sa sb rfl (by simp only [List.take_append_drop]; exact hs)
      simpa only [List.take_append_drop] using this
    rw [c1, c2]
    simp only [Option.bind_some, own_eq sa.small, own_eq sb.small, ew, bne_self_eq_false, cond_false, same_eq hs.small, Bool.not_true]
    rw [List.length_take, List.length_drop, Nat.min_eq_left (by omega), wr_in (n := (h.Sections.length : Int) - k) (by omega) (by omega), show (((h.Sections.length - k : Nat) : Int) != (h.Sections.length : Int) - k) = false from by rw [bne_eq_false_iff_eq]; omega]
    simp only [bne_self_eq_false, cond_false]
    have hv := lim_app (h.Sections.take k) (h.Sections.drop k) (2 * draft)
    have hva := vol_app (h.Sections.take k) (h.Sections.drop k) (2 * draft)
    rw [List.take_append_drop] at hv hva
    simp only [Vol_cases sa, Vol_cases sb, Vol_cases hs, Option.bind_some, hv]
    cases ca : inB (2 * draft) 0 (limS (h.Sections.take k) 1000) with
    | false => cases cb : inB (2 * draft) 0 (limS (h.Sections.drop k) 1000) <;> rfl
    | true =>
      cases cb : inB (2 * draft) 0 (limS (h.Sections.drop k) 1000) with
      | false => rfl
      | true =>
        rw [inB_iff] at ca cb
        have ba := vol_bnd sa.hl.sec (fits_of ca.1 ca.2)
        have bb := vol_bnd sb.hl.sec (fits_of cb.1 cb.2)
        have la : (h.Sections.take k).length ≤ 4 := by rw [List.length_take]; omega
        have lb : (h.Sections.drop k).length ≤ 4 := by rw [List.length_drop]; omega
        simp only at ba bb
        simp only [Bool.and_self, cond_true, beq_self_eq_true]
        rw [wr_in (n := volS (h.Sections.take k) (2 * draft) + volS (h.Sections.drop k) (2 * draft)) (by omega) (by omega), hva]
        simp
end Go.Ev
/- The law HullWelded, by what is known of its arguments. -/
set_option linter.unusedVariables false
namespace Go.Ev
theorem welded_law {x : Tthalweglaw02_Small} {a b : Int} (h1 : kTthalweglaw02_Small x) (h2 : kIu8 a) (h3 : kIu8 b) : F_thalweglaw02_HullWelded (x, a, b) = some true := welded_true (small_of h1) h2 h3
end Go.Ev
