/- A part of the proof of RiverTruths. -/
import Derived.Test.YtcbkndfnjhfdpaaW13
/- Chapter 1: levels and flows of a truth lie in the bounds. -/
set_option linter.unusedVariables false
set_option linter.unusedSimpArgs false
namespace Go.Ev
set_option maxHeartbeats 2000000
theorem divB_mono {u v w : Int} (hF : 0 < w) (h : u ≤ v) (up : Bool) : divB up u w ≤ divB up v w := by
  cases up with
  | false => simp only [divB, Bool.false_eq_true, if_false]; exact Int.ediv_le_ediv hF h
  | true =>
    simp only [divB, if_true]
    have := Int.ediv_le_ediv hF (show -v ≤ -u by omega)
    omega
theorem divB_near {u w : Int} (hF : 0 < w) : divB true u w ≤ divB false u w + 1 := by
  simp only [divB, Bool.false_eq_true, if_false, if_true]
  have a1 := Int.mul_ediv_add_emod u w
  have a2 := Int.mul_ediv_add_emod (-u) w
  have b1 := Int.emod_lt_of_pos u hF
  have b2 := Int.emod_lt_of_pos (-u) hF
  have e : w * (u / w + (-u) / w) = w * (u / w) + w * ((-u) / w) := Int.mul_add _ _ _
  rcases Int.lt_or_le (u / w + (-u) / w) (-1) with c | c
  · have := Int.mul_le_mul_of_nonneg_left (show u / w + (-u) / w ≤ -2 by omega) (show 0 ≤ w by omega)
    omega
  · omega
theorem level_up {l : List TRateRow} {n n' : Int} {up : Bool} (hc : curveOk l = true) (hn : n ≤ n') : levelOf l n up ≤ levelOf l n' up := by
  have hc' := hc
  simp only [curveOk, Bool.and_eq_true, inB_iff] at hc'
  obtain ⟨hl, hps, hrs⟩ := hc'
  have hle := first_le l n
  have hle' := first_le l n'
  have hi : firstAt l n ≤ firstAt l n' := by
    by_cases c : firstAt l n' < firstAt l n
    · have a := first_lt c (by omega)
      have b := first_at (l := l) (n := n') (by omega)
      omega
    · omega
  by_cases c : firstAt l n = firstAt l n'
  · by_cases c1 : firstAt l n < l.length
    · by_cases c0 : firstAt l n = 0
      · have ci : firstAt l n - 1 < l.length := by omega
        simp only [levelOf, ← c, List.getElem?_eq_getElem c1, List.getElem?_eq_getElem ci]
        rw [if_pos c0, if_pos c0]
        exact Int.le_refl _
      · have ci : firstAt l n - 1 < l.length := by omega
        simp only [levelOf, ← c, List.getElem?_eq_getElem c1, List.getElem?_eq_getElem ci]
        rw [if_neg c0, if_neg c0]
        have f1 := first_lt (n := n) (show firstAt l n - 1 < firstAt l n by omega) ci
        have f2 := first_at c1
        have lv := levels_up hps (a := firstAt l n - 1) (by omega)
        simp only [show firstAt l n - 1 + 1 = firstAt l n by omega] at lv
        have hF : 0 < l[firstAt l n].Flow - l[firstAt l n - 1].Flow := by omega
        have hm : (l[firstAt l n].Level - l[firstAt l n - 1].Level) * (n - l[firstAt l n - 1].Flow) ≤ (l[firstAt l n].Level - l[firstAt l n - 1].Level) * (n' - l[firstAt l n - 1].Flow) := Int.mul_le_mul_of_nonneg_left (by omega) (by omega)
        have := divB_mono hF hm up
        omega
    · have ce : firstAt l n = l.length := by omega
      have ci : l.length - 1 < l.length := by omega
      simp only [levelOf, ← c, ce, List.getElem?_eq_none (Nat.le_refl l.length), List.getElem?_eq_getElem ci]
      exact Int.le_refl _
  · have h1 := level_upper (n := n) (up := up) hc (by omega)
    have h2 := level_lower (n := n') (up := up) hc (by omega) (by omega)
    have h3 := levels_le hps (a := firstAt l n) (b := firstAt l n' - 1) (by omega) (by omega)
    omega
theorem level_near {l : List TRateRow} {n : Int} (hc : curveOk l = true) : levelOf l n true ≤ levelOf l n false + 1 := by
  have hc' := hc
  simp only [curveOk, Bool.and_eq_true, inB_iff] at hc'
  obtain ⟨hl, hps, hrs⟩ := hc'
  have hle := first_le l n
  by_cases c1 : firstAt l n < l.length
  · have ci : firstAt l n - 1 < l.length := by omega
    simp only [levelOf, List.getElem?_eq_getElem c1, List.getElem?_eq_getElem ci]
    by_cases c0 : firstAt l n = 0
    · rw [if_pos c0, if_pos c0]; omega
    · rw [if_neg c0, if_neg c0]
      have f1 := first_lt (n := n) (show firstAt l n - 1 < firstAt l n by omega) ci
      have f2 := first_at c1
      have hF : 0 < l[firstAt l n].Flow - l[firstAt l n - 1].Flow := by omega
      have := divB_near (u := (l[firstAt l n].Level - l[firstAt l n - 1].Level) * (n - l[firstAt l n - 1].Flow)) hF
      omega
  · have ce : firstAt l n = l.length := by omega
    have ci : l.length - 1 < l.length := by omega
    simp only [levelOf, ce, List.getElem?_eq_none (Nat.le_refl l.length), List.getElem?_eq_getElem ci]
    omega
theorem mm_max (a b : Int) : minmax true a b = max a b := by simp only [minmax, if_true]; omega
theorem mm_min (a b : Int) : minmax false a b = min a b := by simp only [minmax, Bool.false_eq_true, if_false]; omega
/-- The level of an exact flow, beside that of bounds around it. -/
theorem lev_true {x : TReach} {b : TBounds} {n : Int} (h : reachOk x = true) (h1 : b.Low ≤ n) (h2 : n ≤ b.High) :
    (levB x b).Low ≤ (levB x ⟨n, n⟩).Low ∧ (levB x ⟨n, n⟩).High ≤ (levB x b).High ∧ (levB x ⟨n, n⟩).High ≤ (levB x ⟨n, n⟩).Low + 1 ∧ x.Weir ≤ (levB x ⟨n, n⟩).Low ∧
    (levB x b).Low ≤ (levB x ⟨n, n⟩).High ∧ (levB x ⟨n, n⟩).Low ≤ (levB x b).High ∧ 0 ≤ (levB x ⟨n, n⟩).Low ∧ (levB x ⟨n, n⟩).Low ≤ 10000 ∧ 0 ≤ (levB x ⟨n, n⟩).High ∧ (levB x ⟨n, n⟩).High ≤ 10000 := by
  have hc := reachOk_curve h
  have hb := bottom_of h
  have a1 := level_up (up := false) hc h1
  have a2 := level_up (up := true) hc h2
  have a3 := level_near (n := n) hc
  have a4 := level_mono hc h1
  have a5 := level_mono hc h2
  have t1 := level_tight (n := n) (up := false) hc
  have t2 := level_tight (n := n) (up := true) hc
  simp only [levB, mm_max]
  omega

/-! bytes -/
def pt (l : List Int) (i : Int) : Int := if l.length = 0 then 0 else l.getD (Int.tmod i (l.length : Int)).toNat 0
def byteL (l : List Int) : Prop := ∀ x ∈ l, 0 ≤ x ∧ x ≤ 255
theorem part_eq {l : List Int} {i : Int} (hi : 0 ≤ i) : F_thalweglaw01_part (l, i) = some (pt l i) := by
  simp only [F_thalweglaw01_part, pt]
  by_cases c : l.length = 0
  · simp [c]
  · have hpos : 0 < (l.length : Int) := by omega
    rw [show (((l.length : Int) == 0)) = false by simp; exact fun e => c (by simp [e])]
    simp only [cond_false, nz_of (show (l.length : Int) ≠ 0 by omega), Option.bind_some]
    have h0 := Int.tmod_nonneg (l.length : Int) hi
    have h1 := Int.tmod_lt_of_pos i hpos
    rw [if_neg c]
    unfold idx?
    rw [if_pos h0, List.getD_eq_getElem?_getD, List.getElem?_eq_getElem (by omega)]
    rfl
theorem pt_in {l : List Int} (h : byteL l) (i : Int) : 0 ≤ pt l i ∧ pt l i ≤ 255 := by
  unfold pt
  split
  · omega
  · rw [List.getD_eq_getElem?_getD]
    cases hx : l[(Int.tmod i (l.length : Int)).toNat]? with
    | none => simp
    | some y => exact h y (List.mem_of_getElem? hx)
def pk (b : TBounds) (p : Int) : Int := b.Low + (b.High - b.Low) * p / 255
theorem pk_in {b : TBounds} {p : Int} (h0 : 0 ≤ p) (h1 : p ≤ 255) (hb : b.Low ≤ b.High) : b.Low ≤ pk b p ∧ pk b p ≤ b.High := by
  unfold pk
  have a1 : 0 ≤ (b.High - b.Low) * p := Int.mul_nonneg (by omega) h0
  have a2 : (b.High - b.Low) * p ≤ (b.High - b.Low) * 255 := Int.mul_le_mul_of_nonneg_left h1 (by omega)
  generalize (b.High - b.Low) * p = u at a1 a2 ⊢
  omega
theorem pick_eq {b : TBounds} {p : Int} (h0 : 0 ≤ p) (h1 : p ≤ 255) (hb : b.Low ≤ b.High) (hl : -10000000000000 ≤ b.Low) (hh : b.High ≤ 10000000000000) : F_thalweglaw01_pick (b, p) = some (pk b p) := by
  have a1 : 0 ≤ (b.High - b.Low) * p := Int.mul_nonneg (by omega) h0
  have a2 : (b.High - b.Low) * p ≤ (b.High - b.Low) * 255 := Int.mul_le_mul_of_nonneg_left h1 (by omega)
  have hin := pk_in h0 h1 hb
  have hin' := hin
  unfold pk at hin'
  simp only [F_thalweglaw01_pick]
  rw [wr_in (n := b.High - b.Low) (by omega) (by omega), wr_in (n := p) (by omega) (by omega), wr_in (n := (b.High - b.Low) * p) (by omega) (by omega), Int.tdiv_eq_ediv_of_nonneg a1, wr_in (n := (b.High - b.Low) * p / 255) (by omega) (by omega), wr_in (by omega) (by omega)]
  rfl

/-! flows -/
structure TrOk (x : Tthalweglaw01_Truth) : Prop where
  base : byteL x.Base
  side : byteL x.Side
  bed : byteL x.Bed
  grow : byteL x.Grow
section
variable {r : TRiver} {s : List (List TBounds)} {H : Nat} {x : Tthalweglaw01_Truth}
def truA (r : TRiver) (s : List (List TBounds)) (x : Tthalweglaw01_Truth) : Nat → Int → Int
  | 0, h => if h < 0 then pk (reachAt r 0).Base (pt x.Base 0) else pk (getB s 0 h.toNat) (pt x.Side h)
  | i + 1, h => if h < 0 then pk (reachAt r (i + 1)).Base (pt x.Base ((i + 1 : Nat) : Int)) else pk (getB s (i + 1) h.toNat) (pt x.Side (7 * ((i + 1 : Nat) : Int) + h)) + truA r s x i (h - (reachAt r i).Delay)
theorem tru_in (h : FcOk r s H) (hx : TrOk x) : ∀ (i : Nat) (k : Int), i < r.Reaches.length → (flowAt r s i k).Low ≤ truA r s x i k ∧ truA r s x i k ≤ (flowAt r s i k).High
  | 0, k, hi => by
    have hr := reach_of (h.bounds.2.2 0 hi)
    unfold flowAt truA
    by_cases c : k < 0
    · rw [if_pos c, if_pos c]
      have := pt_in hx.base 0
      exact pk_in this.1 this.2 hr.2.2.2.1
    · rw [if_neg c, if_neg c]
      have := pt_in hx.side k
      exact pk_in this.1 this.2 (h.getB_upTo 0 k.toNat).2.1
  | i + 1, k, hi => by
    have hr := reach_of (h.bounds.2.2 (i + 1) hi)
    unfold flowAt truA
    by_cases c : k < 0
    · rw [if_pos c, if_pos c]
      have := pt_in hx.base ((i + 1 : Nat) : Int)
      exact pk_in this.1 this.2 hr.2.2.2.1
    · rw [if_neg c, if_neg c]
      have := pt_in hx.side (7 * ((i + 1 : Nat) : Int) + k)
      have a := pk_in this.1 this.2 (h.getB_upTo (i + 1) k.toNat).2.1
      have b := tru_in h hx i (k - (reachAt r i).Delay) (by omega)
      simp only [addB]
      omega
theorem truly_loop (h : FcOk r s H) (hx : TrOk x) : ∀ (i : Nat) (k n : Int), i < r.Reaches.length → k < H → -1000 ≤ k → 0 ≤ n → n ≤ 10000000000 * (30 - (i : Int)) →
    loopC (L_thalweglaw01_truly_1 ⟨r, s⟩ x).step ((i : Int), k, n) = some (n + truA r s x i k)
  | i, k, n, hi, hk, hk', h0, h1 => by
    have hb := h.bounds
    have hm := h.most
    have hr := reach_of (h.bounds.2.2 i hi)
    have hin := tru_in h hx i k hi
    have hup := h.flow_upTo i k hi
    have his : i < s.length := by rw [h.len]; exact hi
    rw [loopC_eq]
    generalize hLL : loopC (L_thalweglaw01_truly_1 ⟨r, s⟩ x).step = LL
    by_cases c : k < 0
    · have hp := pt_in hx.base (i : Int)
      have hpk := pk_in hp.1 hp.2 hr.2.2.2.1
      have hv : truA r s x i k = pk (reachAt r i).Base (pt x.Base (i : Int)) := by
        cases i with
        | zero => unfold truA; rw [if_pos c]; rfl
        | succ i => unfold truA; rw [if_pos c]
      have hup2 := hr.2.2
      unfold upTo at hup2
      simp only [L_thalweglaw01_truly_1, c, decide_true, cond_true, idx?_nat hi, Option.bind_some, part_eq (show 0 ≤ (i : Int) by omega), reachAt_eq hi]
      rw [pick_eq hp.1 hp.2 hup2.2.1 (by omega) (by omega)]
      simp only [Option.bind_some]
      rw [wr_in (by omega) (by omega), hv]
    · have hkn : k = (k.toNat : Int) := by omega
      have hks : k.toNat < s[i].length := by rw [h.hours _ (List.getElem_mem his)]; omega
      have hg : idx? s[i] k = some (getB s i k.toNat) := by
        have e := idx?_nat hks
        rw [← hkn] at e
        rw [getB_eq his hks]; exact e
      have hp := pt_in hx.side (7 * (i : Int) + k)
      have hgu := h.getB_upTo i k.toNat
      have hpk := pk_in hp.1 hp.2 hgu.2.1
      unfold upTo at hgu
      simp only [L_thalweglaw01_truly_1, c, decide_false, cond_false, idx?_nat his, Option.bind_some, hg]
      rw [wr_in (n := 7 * (i : Int)) (by omega) (by omega), wr_in (n := 7 * (i : Int) + k) (by omega) (by omega), part_eq (by omega)]
      simp only [Option.bind_some]
      rw [pick_eq hp.1 hp.2 hgu.2.1 (by omega) (by omega)]
      simp only [Option.bind_some]
      rw [wr_in (n := n + pk (getB s i k.toNat) (pt x.Side (7 * (i : Int) + k))) (by omega) (by omega)]
      cases i with
      | zero =>
        simp only [Int.natCast_zero, Int.mul_zero, Int.zero_add, beq_self_eq_true, cond_true]
        unfold truA
        rw [if_neg c]
      | succ i =>
        have hd := reach_of (h.bounds.2.2 i (by omega))
        rw [show (((i + 1 : Nat) : Int) == 0) = false by simp; omega]
        simp only [cond_false]
        rw [show wr (((i + 1 : Nat) : Int) - 1) = (i : Int) by rw [wr_in] <;> omega, idx?_nat (show i < r.Reaches.length by omega)]
        simp only [Option.bind_some, reachAt_eq (show i < r.Reaches.length by omega)]
        rw [wr_in (n := k - (reachAt r i).Delay) (by omega) (by omega)]
        subst hLL
        rw [truly_loop h hx i (k - (reachAt r i).Delay) _ (by omega) (by omega) (by omega) (by omega) (by omega)]
        have e : truA r s x (i + 1) k = pk (getB s (i + 1) k.toNat) (pt x.Side (7 * ((i + 1 : Nat) : Int) + k)) + truA r s x i (k - (reachAt r i).Delay) := by
          conv => lhs; unfold truA
          rw [if_neg c]
        rw [e, Int.add_assoc]
theorem truly_eq (h : FcOk r s H) (hx : TrOk x) {i : Nat} {k : Int} (hi : i < r.Reaches.length) (hk : k < H) (hk' : -1000 ≤ k) : F_thalweglaw01_truly (⟨r, s⟩, x, (i : Int), k) = some (truA r s x i k) := by
  have := h.bounds
  simp only [F_thalweglaw01_truly]
  rw [truly_loop h hx i k 0 hi hk hk' (by omega) (by omega)]
  simp
theorem Level_true (h : FcOk r s H) (hx : TrOk x) {i : Nat} (hi : i < r.Reaches.length) (k : Int) : F_river_Level (reachAt r i, ⟨truA r s x i k, truA r s x i k⟩) = some (levB (reachAt r i) ⟨truA r s x i k, truA r s x i k⟩, 0) := by
  have hb := h.bounds
  have hin := tru_in h hx i k hi
  have hup := h.flow_upTo i k hi
  unfold upTo at hup
  rw [Level_eq, if_pos (hb.2.2 i hi), if_pos]
  simp only [vB, Bool.and_eq_true, inB_iff, decide_eq_true_eq]
  omega
theorem copied_ok (h : FcOk r s H) : F_thalweglaw01_copied r = some r := by
  obtain ⟨p1, p2, p3, p4, p5, p6⟩ := river_parts h.river
  refine copied_eq (by omega) (by omega) fun y hy => ?_
  obtain ⟨i, hi, rfl⟩ := List.mem_iff_getElem.1 hy
  have hc := reachOk_curve (p6 i hi)
  rw [← reachAt_eq hi] at hc
  simp only [curveOk, Bool.and_eq_true, inB_iff] at hc
  omega
theorem in_eq (b : TBounds) (n : Int) : F_thalweglaw01_in (b, n) = some (decide (b.Low ≤ n) && decide (n ≤ b.High)) := by
  simp only [F_thalweglaw01_in, ge_iff_le, bif_and]
theorem truths_in (h : FcOk r s H) (hx : TrOk x) {a2 : List TPass} {i : Nat} (hi : i < r.Reaches.length) : ∀ (d k : Nat), H - k ≤ d → k ≤ 100000 →
    loopC (L_thalweglaw01_RiverTruths_1 a2 (flowsTo r s H s.length, 0) (levsTo r s H r.Reaches.length, 0) (i : Int) ⟨r, s⟩ x).step (k : Int) = some (.inl ())
  | d, k, hd, hk2 => by
    have hb := h.bounds
    have hln := h.len
    have hm := h.most
    have g1 : idx? (levsTo r s H r.Reaches.length) (i : Int) = some (levRow r s H i) := by rw [idx?_nat (by rw [levsTo_length]; exact hi), levsTo_get]
    have g3 : idx? (flowsTo r s H s.length) (i : Int) = some (rowOf r s H i) := by rw [idx?_nat (by rw [flowsTo_length]; omega), flowsTo_get]
    rw [loopC_eq]
    generalize hLL : loopC (L_thalweglaw01_RiverTruths_1 a2 (flowsTo r s H s.length, 0) (levsTo r s H r.Reaches.length, 0) (i : Int) ⟨r, s⟩ x).step = LL
    by_cases c : k < H
    · have g2 : idx? (levRow r s H i) (k : Int) = some (levAt r s i (k : Int)) := by rw [idx?_nat (by rw [levRow_length]; exact c), levRow_get]
      have g4 : idx? (rowOf r s H i) (k : Int) = some (flowAt r s i (k : Int)) := by rw [idx?_nat (by rw [rowOf_length]; exact c), rowOf_get]
      have hin := tru_in h hx i (k : Int) hi
      obtain ⟨q1, q2, q3, q4, q5, q6, q7, q8, q9, q10⟩ := lev_true (hb.2.2 i hi) hin.1 hin.2
      have e : levAt r s i (k : Int) = levB (reachAt r i) (flowAt r s i (k : Int)) := rfl
      have ht : Int.tdiv (H : Int) 10 = ((H / 10 : Nat) : Int) := by rw [Int.tdiv_eq_ediv_of_nonneg (by omega)]; omega
      simp only [L_thalweglaw01_RiverTruths_1, g1, g2, g3, g4, Option.bind_some, rowOf_length, Int.ofNat_lt, c, decide_true, cond_true, truly_eq h hx hi (show (k : Int) < H by omega) (by omega), copied_ok h, idx?_nat hi, reachAt_eq hi, Level_true h hx hi, bne_self_eq_false, cond_false, in_eq, hin.1, hin.2, Bool.and_self, Bool.not_true, e]
      rw [decide_eq_false (show ¬ (levB (reachAt r i) ⟨truA r s x i (k : Int), truA r s x i (k : Int)⟩).Low < (levB (reachAt r i) (flowAt r s i (k : Int))).Low by omega),
        decide_eq_false (show ¬ (levB (reachAt r i) ⟨truA r s x i (k : Int), truA r s x i (k : Int)⟩).High > (levB (reachAt r i) (flowAt r s i (k : Int))).High by omega),
        wr_in (n := (levB (reachAt r i) ⟨truA r s x i (k : Int), truA r s x i (k : Int)⟩).High - (levB (reachAt r i) ⟨truA r s x i (k : Int), truA r s x i (k : Int)⟩).Low) (by omega) (by omega),
        decide_eq_false (show ¬ (levB (reachAt r i) ⟨truA r s x i (k : Int), truA r s x i (k : Int)⟩).High - (levB (reachAt r i) ⟨truA r s x i (k : Int), truA r s x i (k : Int)⟩).Low > 1 by omega),
        decide_eq_false (show ¬ (levB (reachAt r i) ⟨truA r s x i (k : Int), truA r s x i (k : Int)⟩).Low < (reachAt r i).Weir by omega), ht,
        wr_in (n := ((H / 10 : Nat) : Int)) (by omega) (by omega), wr_in (n := 1 + ((H / 10 : Nat) : Int)) (by omega) (by omega), wr_in (n := (k : Int) + (1 + ((H / 10 : Nat) : Int))) (by omega) (by omega),
        show (k : Int) + (1 + ((H / 10 : Nat) : Int)) = ((k + (1 + H / 10) : Nat) : Int) by omega]
      simp only [cond_false]
      subst hLL
      cases d with
      | zero => omega
      | succ d => exact truths_in h hx hi d (k + (1 + H / 10)) (by omega) (by omega)
    · simp [L_thalweglaw01_RiverTruths_1, g3, rowOf_length, c]
end
end Go.Ev
/- Chapter 1: beds, depths and ways of a truth lie in the bounds; the law RiverTruths is true. -/
set_option linter.unusedVariables false
set_option linter.unusedSimpArgs false
namespace Go.Ev
set_option maxHeartbeats 4000000
/-! the reach of a place -/
theorem number_loop {r : TRiver} {s : List (List TBounds)} {x : Tthalweglaw01_Truth} {a2 : List TPass} {y6 : List (List TBounds) × Int} {s84 s85 s86 y125 : Int} {y82 : TBounds × Int × Int × Int} {p : TPass} (hl : r.Reaches.length ≤ 1000) : ∀ (m : List TReach) (k : Nat) (e : Int), r.Reaches.drop k = m → (∀ x ∈ m, 0 ≤ x.Length ∧ x.Length ≤ 5000) → 0 ≤ e → e ≤ 5000 * k → e ≤ p.Place → p.Place < e + tot m →
    ∃ (j : Nat) (hj : j < r.Reaches.length), loopC (L_thalweglaw01_RiverTruths_3 a2 y6 s84 s85 s86 y125 ⟨r, s⟩ x y82 p).step ((k : Int), e) = some (j : Int) ∧ findGo p.Place r.Shoals m e k = some ⟨r.Reaches[j], (j : Int), p.Place, r.Shoals⟩
  | [], k, e, h, _, _, _, h1, h2 => by rw [tot] at h2; omega
  | y :: m, k, e, h, hx, h0, h00, h1, h2 => by
    obtain ⟨hk, hg, hd⟩ := drop_cons h
    have hx0 := hx y (by simp)
    rw [tot] at h2
    have hlen : m.length = r.Reaches.length - (k + 1) := by rw [← hd, List.length_drop]
    rw [loopC_eq]
    generalize hLL : loopC (L_thalweglaw01_RiverTruths_3 a2 y6 s84 s85 s86 y125 ⟨r, s⟩ x y82 p).step = LL
    by_cases c : p.Place < e + y.Length
    · refine ⟨k, hk, ?_, ?_⟩
      · simp only [L_thalweglaw01_RiverTruths_3]
        rw [wr_in (n := (r.Reaches.length : Int) - 1) (by omega) (by omega)]
        by_cases c2 : (k : Int) < (r.Reaches.length : Int) - 1
        · simp only [c2, decide_true, cond_true, idx?_nat hk, Option.bind_some, hg]
          rw [wr_in (n := e + y.Length) (by omega) (by omega), decide_eq_false (show ¬ p.Place ≥ e + y.Length by omega)]
          rfl
        · simp only [c2, decide_false, cond_false]
      · rw [findGo, if_pos ⟨by omega, c⟩, hg]
    · have c2 : (k : Int) < (r.Reaches.length : Int) - 1 := by
        rcases Nat.lt_or_ge (k + 1) r.Reaches.length with q | q
        · omega
        · have : m = [] := List.eq_nil_of_length_eq_zero (by omega)
          subst this
          rw [tot] at h2; omega
      obtain ⟨j, hj, a1, a2'⟩ := number_loop (s := s) (x := x) (a2 := a2) (y6 := y6) (s84 := s84) (s85 := s85) (s86 := s86) (y125 := y125) (y82 := y82) hl m (k + 1) (e + y.Length) hd (fun z hz => hx z (by simp [hz])) (by omega) (by push_cast; omega) (Int.not_lt.1 c) (by omega)
      refine ⟨j, hj, ?_, ?_⟩
      · simp only [L_thalweglaw01_RiverTruths_3]
        rw [wr_in (n := (r.Reaches.length : Int) - 1) (by omega) (by omega)]
        simp only [c2, decide_true, cond_true, idx?_nat hk, Option.bind_some, hg]
        rw [wr_in (n := e + y.Length) (by omega) (by omega), decide_eq_true (show p.Place ≥ e + y.Length by omega), wr_nat (by omega)]
        subst hLL
        exact a1
      · rw [findGo, if_neg (by omega)]
        exact a2'
theorem number_eq {r : TRiver} {s : List (List TBounds)} {x : Tthalweglaw01_Truth} {a2 : List TPass} {y6 : List (List TBounds) × Int} {s84 s85 s86 y125 : Int} {y82 : TBounds × Int × Int × Int} {p : TPass} (hr : ∀ x ∈ r.Reaches, 0 ≤ x.Length ∧ x.Length ≤ 5000) (hl : r.Reaches.length ≤ 1000) (hp : inB p.Place 0 (tot r.Reaches - 1) = true) :
    loopC (L_thalweglaw01_RiverTruths_3 a2 y6 s84 s85 s86 y125 ⟨r, s⟩ x y82 p).step (0, 0) = some (reachNo r p.Place : Int) := by
  rw [inB_iff] at hp
  obtain ⟨j, hj, a1, a2'⟩ := number_loop (s := s) (x := x) (a2 := a2) (y6 := y6) (s84 := s84) (s85 := s85) (s86 := s86) (y125 := y125) (y82 := y82) (p := p) hl r.Reaches 0 0 rfl hr (by omega) (by omega) (by omega) (by omega)
  have e : reachNo r p.Place = j := by unfold reachNo; rw [a2']; simp
  rw [e]; exact a1

/-! the true bed -/
structure ShOrd (r : TRiver) : Prop where
  ord : ∀ x ∈ r.Shoals, x.Bed.Low ≤ x.Bed.High ∧ x.Grow.Low ≤ x.Grow.High
theorem ord_of {r : TRiver} (h : riverOk r = true) : ∀ x ∈ r.Shoals, x.Bed.Low ≤ x.Bed.High ∧ x.Grow.Low ≤ x.Grow.High := by
  have hriv := h
  simp only [riverOk, Bool.and_eq_true, inB_iff, List.all_eq_true, decide_eq_true_eq] at hriv
  intro x hx
  have := hriv.2.2.2 x hx
  simp only [shoalOk, vB, Bool.and_eq_true, inB_iff, decide_eq_true_eq] at this
  exact ⟨this.2.2.1.1, this.2.2.2.1⟩
theorem shoal_true {y : TShoal} {h b g : Int} (hy : shOk y) (h0 : 0 ≤ h) (h1 : h ≤ 400) (b1 : y.Bed.Low ≤ b) (b2 : b ≤ y.Bed.High) (g1 : y.Grow.Low ≤ g) (g2 : g ≤ y.Grow.High) :
    24 * shoalLo y h ≤ 24 * b + g * minmax true 0 (h - y.Sounded) ∧ 24 * b + g * minmax true 0 (h - y.Sounded) ≤ 24 * shoalHi y h ∧ -1000000 ≤ g * minmax true 0 (h - y.Sounded) ∧ g * minmax true 0 (h - y.Sounded) ≤ 1000000 := by
  obtain ⟨q1, q2, q3, q4, q5, q6, q7, q8, q9, q10⟩ := hy
  obtain ⟨a0, a1⟩ := age_le (h := h) (s := y.Sounded) (by omega) (by omega) q5 q6
  have e1 := Int.mul_le_mul_of_nonneg_right g1 a0
  have e2 := Int.mul_le_mul_of_nonneg_right g2 a0
  obtain ⟨e3, e4⟩ := grow_le (a := g) (d := minmax true 0 (h - y.Sounded)) (by omega) (by omega) a0 a1
  unfold shoalLo shoalHi
  generalize y.Grow.Low * minmax true 0 (h - y.Sounded) = u at e1 ⊢
  generalize y.Grow.High * minmax true 0 (h - y.Sounded) = v at e2 ⊢
  generalize g * minmax true 0 (h - y.Sounded) = w at *
  omega
section
variable {r : TRiver} {s : List (List TBounds)} {H : Nat} {x : Tthalweglaw01_Truth} {a2 : List TPass} {y6 : List (List TBounds) × Int} {s84 s85 s86 y125 : Int} {y82 : TBounds × Int × Int × Int} {p : TPass} {y140 y142 y137 : TBounds × Int}
theorem top_loop (hr : riverOk r = true) (hx : TrOk x) (h0 : 0 ≤ y125) (h1 : y125 ≤ 400) : ∀ (m : List TShoal) (k : Nat) (t a b : Int), r.Shoals.drop k = m → -100000000 ≤ t → t ≤ 100000000 → 24 * a ≤ t → t ≤ 24 * b →
    ∃ t', loopC (L_thalweglaw01_RiverTruths_4 a2 y6 s84 s85 s86 y125 ⟨r, s⟩ x y140 y142 y137 y82 p).step (t, (k : Int)) = some t' ∧ 24 * (bedGo p.Place y125 m a b).1 ≤ t' ∧ t' ≤ 24 * (bedGo p.Place y125 m a b).2 ∧ -100000000 ≤ t' ∧ t' ≤ 100000000
  | [], k, t, a, b, hd, t0, t1, ha, hb => by
    have := drop_nil hd
    refine ⟨t, ?_, ha, hb, t0, t1⟩
    rw [loopC_eq]
    simp [L_thalweglaw01_RiverTruths_4, show ¬ k < r.Shoals.length by omega]
  | y :: m, k, t, a, b, hd, t0, t1, ha, hb => by
    obtain ⟨p1, p2, p3, p4, p5, p6⟩ := river_parts hr
    obtain ⟨hk, hg, hd'⟩ := drop_cons hd
    have hy := p5 y (by rw [← hg]; exact List.getElem_mem hk)
    have ho := ord_of hr y (by rw [← hg]; exact List.getElem_mem hk)
    have hy' := hy
    obtain ⟨q1, q2, q3, q4, q5, q6, q7, q8, q9, q10⟩ := hy'
    rw [loopC_eq]
    generalize hLL : loopC (L_thalweglaw01_RiverTruths_4 a2 y6 s84 s85 s86 y125 ⟨r, s⟩ x y140 y142 y137 y82 p).step = LL
    by_cases c : y.Place = p.Place
    · have hb1 := pt_in hx.bed (k : Int)
      have hb2 := pk_in hb1.1 hb1.2 ho.1
      have hg1 := pt_in hx.grow (k : Int)
      have hg2 := pk_in hg1.1 hg1.2 ho.2
      obtain ⟨a0, a1⟩ := age_le (h := y125) (s := y.Sounded) (by omega) (by omega) q5 q6
      obtain ⟨u1, u2, u3, u4⟩ := shoal_true hy h0 h1 hb2.1 hb2.2 hg2.1 hg2.2
      obtain ⟨t', e1, e2, e3, e4, e5⟩ := top_loop hr hx h0 h1 m (k + 1) (minmax true t (24 * pk y.Bed (pt x.Bed (k : Int)) + pk y.Grow (pt x.Grow (k : Int)) * minmax true 0 (y125 - y.Sounded))) (minmax true a (shoalLo y y125)) (minmax true b (shoalHi y y125)) hd'
        (by rw [mm_max]; omega) (by rw [mm_max]; omega) (by simp only [mm_max] at *; omega) (by simp only [mm_max] at *; omega)
      refine ⟨t', ?_, ?_⟩
      · simp only [L_thalweglaw01_RiverTruths_4, Int.ofNat_lt, hk, decide_true, cond_true, idx?_nat hk, hg, Option.bind_some, c, beq_self_eq_true, part_eq (show 0 ≤ (k : Int) by omega)]
        rw [pick_eq hb1.1 hb1.2 ho.1 (by omega) (by omega), pick_eq hg1.1 hg1.2 ho.2 (by omega) (by omega)]
        simp only [Option.bind_some]
        rw [wr_in (n := 24 * pk y.Bed (pt x.Bed (k : Int))) (by omega) (by omega), wr_in (n := y125 - y.Sounded) (by omega) (by omega), wr_in (n := pk y.Grow (pt x.Grow (k : Int)) * minmax true 0 (y125 - y.Sounded)) (by omega) (by omega), wr_in (n := 24 * pk y.Bed (pt x.Bed (k : Int)) + pk y.Grow (pt x.Grow (k : Int)) * minmax true 0 (y125 - y.Sounded)) (by omega) (by omega), wr_nat (by omega)]
        subst hLL
        exact e1
      · rw [bedGo, if_pos c]
        exact ⟨e2, e3, e4, e5⟩
    · obtain ⟨t', e1, e2⟩ := top_loop hr hx h0 h1 m (k + 1) t a b hd' t0 t1 ha hb
      refine ⟨t', ?_, ?_⟩
      · simp only [L_thalweglaw01_RiverTruths_4, Int.ofNat_lt, hk, decide_true, cond_true, idx?_nat hk, hg, Option.bind_some, show (y.Place == p.Place) = false by simpa using c, cond_false]
        rw [wr_nat (by omega)]
        subst hLL
        exact e1
      · rw [bedGo, if_neg c]
        exact e2
theorem BedAt (h : FcOk r s H) (hp : PassOk r H p) {k : Int} (h0 : 0 ≤ k) (h1 : k < H) : F_river_Bed (r, p.Place, k) = some (bedOf r (reachNo r p.Place) p.Place k, 0) := by
  obtain ⟨hr, hrl⟩ := h.lens
  have hm := h.most
  obtain ⟨_, _, _, d3⟩ := Bed_eq (r := r) p.Place k
  obtain ⟨j, hj, ho, hd⟩ := d3 h.river hp.place (by rw [inB_iff]; omega)
  obtain ⟨_, ho2, _⟩ := Of_eq2 hr (show r.Reaches.length ≤ 1000 by omega) hp.place
  rw [ho2] at ho
  have : (reachNo r p.Place : Int) = j := Option.some.inj ho
  have : reachNo r p.Place = j := by omega
  subst this
  exact hd
theorem forecast_ok (h : FcOk r s H) : F_thalweglaw01_forecast s = some s := by
  have hb := h.bounds
  have hm := h.most
  have hln := h.len
  exact forecast_eq (by omega) (fun z hz => by rw [h.hours z hz]; omega)
/-- The hour of a pass that is true. -/
def hourOf (x : Tthalweglaw01_Truth) (p : TPass) (k : Nat) : Int := pk p.Hours (pt x.Side (k : Int))
def lessB (o n : Int) : Int := if o < 0 then n else if n < o then n else o
theorem lessB_eq (o n : Int) {A : Type} (f : Int → A) : (bif decide (o < 0) then f n else bif decide (n < o) then f n else f o) = f (lessB o n) := by
  unfold lessB
  by_cases c : o < 0
  · simp [c]
  · by_cases c2 : n < o <;> simp [c, c2]
theorem step5_form {k : Int} {sh dp v v2 t n q tp j : Int} {row : List TBounds} {rc : TReach} {lv da bd : TBounds} (h1 : decide (k < (a2.length : Int)) = true) (h2 : idx? a2 k = some p) (h3 : F_thalweglaw01_part (x.Side, k) = some v) (h4 : F_thalweglaw01_pick (p.Hours, v) = some t)
    (h5 : loopC (L_thalweglaw01_RiverTruths_3 a2 y6 sh dp k t ⟨r, s⟩ x y82 p).step (0, 0) = some j) (h6 : decide (t < 0) = false) (h7 : idx? y6.1 j = some row) (h8 : decide (t ≥ (row.length : Int)) = false) (h9 : F_thalweglaw01_truly (⟨r, s⟩, x, j, t) = some n)
    (h10 : F_thalweglaw01_copied r = some r) (h11 : idx? r.Reaches j = some rc) (h12 : F_river_Level (rc, ⟨n, n⟩) = some (lv, 0)) (h13 : F_thalweglaw01_forecast s = some s) (h14 : F_river_Depth (r, s, p.Place, t) = some (da, 0)) (h15 : F_river_Bed (r, p.Place, t) = some (bd, 0))
    (h16 : F_thalweglaw01_part (x.Bed, j) = some v2) (h17 : F_thalweglaw01_pick (rc.Bottom, v2) = some q) (h18 : loopC (L_thalweglaw01_RiverTruths_4 a2 y6 sh dp k t ⟨r, s⟩ x (da, 0) (bd, 0) (lv, 0) y82 p).step (wr (24 * q), 0) = some tp)
    (c1 : decide (tp < wr (24 * bd.Low)) = false) (c2 : decide (tp > wr (24 * bd.High)) = false) (c3 : decide (wr (24 * da.Low) > minmax true 0 (wr (wr (24 * lv.High) - tp))) = false) (c4 : decide (wr (24 * da.High) < wr (wr (24 * lv.Low) - tp)) = false) (c5 : decide (da.Low > da.High) = false) :
    (L_thalweglaw01_RiverTruths_5 a2 y6 ⟨r, s⟩ x y82).step (sh, dp, k) = some (.inl (lessB sh (minmax true 0 (wr (wr (24 * lv.High) - tp))), lessB dp (minmax true 0 (wr (wr (24 * lv.Low) - tp))), wr (k + 1))) := by
  unfold L_thalweglaw01_RiverTruths_5
  dsimp only
  rw [h1, cond_true, h2, Option.bind_some, h3, Option.bind_some, h4, Option.bind_some, h5, Option.bind_some, h6, cond_false, h7, Option.bind_some, h8, cond_false, h9, Option.bind_some, h10, Option.bind_some, h11, Option.bind_some, h12, Option.bind_some, Option.bind_some, h13, Option.bind_some, h14, Option.bind_some, Option.bind_some, h15, Option.bind_some]
  dsimp only
  rw [show ((0 : Int) != 0) = false from rfl, cond_false, cond_false, cond_false, Option.bind_some, h16, Option.bind_some, h17, Option.bind_some, h18, Option.bind_some, c1, cond_false, c2, cond_false, c3, cond_false, c4, cond_false, c5, cond_false]
  generalize minmax true 0 (wr (wr (24 * lv.High) - tp)) = A
  generalize minmax true 0 (wr (wr (24 * lv.Low) - tp)) = B
  by_cases q1 : sh < 0 <;> by_cases q2 : A < sh <;> by_cases q3 : dp < 0 <;> by_cases q4 : B < dp <;> simp only [lessB, q1, q2, q3, q4, decide_true, decide_false, cond_true, cond_false, if_true, if_false]
theorem step5_small {tp : Int} {lv da bd : TBounds} {lo hi : Int} (l1 : 0 ≤ lv.Low) (l2 : lv.Low ≤ 10000) (l3 : 0 ≤ lv.High) (l4 : lv.High ≤ 10000) (t1 : -100000000 ≤ tp) (t2 : tp ≤ 100000000) (b1 : -1000000 ≤ bd.Low) (b2 : bd.Low ≤ 1000000) (b3 : -1000000 ≤ bd.High) (b4 : bd.High ≤ 1000000)
    (d1 : 0 ≤ da.Low) (d2 : da.Low ≤ 10000) (d3 : 0 ≤ da.High) (d4 : da.High ≤ 10000) (d5 : da.Low ≤ da.High) (e1 : 24 * bd.Low ≤ tp) (e2 : tp ≤ 24 * bd.High) (m1 : da.Low = max 0 (lo - bd.High)) (m2 : da.High = max 0 (hi - bd.Low)) (q1 : lo ≤ lv.High) (q2 : lv.Low ≤ hi) :
    decide (tp < wr (24 * bd.Low)) = false ∧ decide (tp > wr (24 * bd.High)) = false ∧ decide (wr (24 * da.Low) > minmax true 0 (wr (wr (24 * lv.High) - tp))) = false ∧ decide (wr (24 * da.High) < wr (wr (24 * lv.Low) - tp)) = false ∧ decide (da.Low > da.High) = false ∧
    minmax true 0 (wr (wr (24 * lv.High) - tp)) = max 0 (24 * lv.High - tp) ∧ minmax true 0 (wr (wr (24 * lv.Low) - tp)) = max 0 (24 * lv.Low - tp) ∧ 24 * da.Low ≤ max 0 (24 * lv.High - tp) ∧ max 0 (24 * lv.Low - tp) ≤ 24 * da.High := by
  rw [wr_in (n := 24 * bd.Low) (by omega) (by omega), wr_in (n := 24 * bd.High) (by omega) (by omega), wr_in (n := 24 * da.Low) (by omega) (by omega), wr_in (n := 24 * da.High) (by omega) (by omega), wr_in (n := 24 * lv.High) (by omega) (by omega), wr_in (n := 24 * lv.Low) (by omega) (by omega), wr_in (n := 24 * lv.High - tp) (by omega) (by omega), wr_in (n := 24 * lv.Low - tp) (by omega) (by omega)]
  simp only [mm_max, decide_eq_false_iff_not]
  refine ⟨by omega, by omega, by omega, by omega, by omega, trivial, trivial, by omega, by omega⟩
theorem top_eq (h : FcOk r s H) (hx : TrOk x) (hp : PassOk r H p) {t : Int} (t0 : 0 ≤ t) (t1 : t < H) :
    ∃ tp q, F_thalweglaw01_pick ((reachAt r (reachNo r p.Place)).Bottom, pt x.Bed (reachNo r p.Place : Int)) = some q ∧ loopC (L_thalweglaw01_RiverTruths_4 a2 y6 s84 s85 s86 t ⟨r, s⟩ x y140 y142 y137 y82 p).step (wr (24 * q), 0) = some tp ∧
      24 * (bedOf r (reachNo r p.Place) p.Place t).Low ≤ tp ∧ tp ≤ 24 * (bedOf r (reachNo r p.Place) p.Place t).High ∧ -100000000 ≤ tp ∧ tp ≤ 100000000 := by
  obtain ⟨hr, hrl⟩ := h.lens
  have hm := h.most
  obtain ⟨hj, _, _⟩ := Of_eq2 hr (show r.Reaches.length ≤ 1000 by omega) hp.place
  have hro := h.bounds.2.2 _ hj
  have hbt := bottom_of hro
  have hbo : (reachAt r (reachNo r p.Place)).Bottom.Low ≤ (reachAt r (reachNo r p.Place)).Bottom.High := by
    have := hro
    simp only [reachOk, vB, Bool.and_eq_true, inB_iff, decide_eq_true_eq] at this
    exact this.2.2.2.2.1.1
  have hq := pt_in hx.bed (reachNo r p.Place : Int)
  have hqk := pk_in hq.1 hq.2 hbo
  have hqp := pick_eq hq.1 hq.2 hbo (by omega) (by omega)
  obtain ⟨tp, e1, e2, e3, e4, e5⟩ := top_loop (s := s) (x := x) (a2 := a2) (y6 := y6) (s84 := s84) (s85 := s85) (s86 := s86) (y125 := t) (y82 := y82) (p := p) (y140 := y140) (y142 := y142) (y137 := y137)
    h.river hx t0 (by omega) r.Shoals 0 (24 * pk (reachAt r (reachNo r p.Place)).Bottom (pt x.Bed (reachNo r p.Place : Int))) (reachAt r (reachNo r p.Place)).Bottom.Low (reachAt r (reachNo r p.Place)).Bottom.High rfl (by omega) (by omega) (by omega) (by omega)
  refine ⟨tp, _, hqp, ?_, e2, e3, e4, e5⟩
  rw [wr_in (n := 24 * pk (reachAt r (reachNo r p.Place)).Bottom (pt x.Bed (reachNo r p.Place : Int))) (by omega) (by omega)]
  exact e1
theorem pass_step (h : FcOk r s H) (hz : startErr r s = 0) (hx : TrOk x) {k : Nat} (hk : k < a2.length) (hk2 : a2.length ≤ 1000) (hp : PassOk r H a2[k]) (sh dp : Int) :
    ∃ a b t : Int, (L_thalweglaw01_RiverTruths_5 a2 (flowsTo r s H s.length, 0) ⟨r, s⟩ x y82).step (sh, dp, (k : Int)) = some (.inl (lessB sh a, lessB dp b, ((k + 1 : Nat) : Int))) ∧ 0 ≤ a ∧ 0 ≤ b ∧
      24 * (dAt r s a2[k].Place t).Low ≤ a ∧ b ≤ 24 * (dAt r s a2[k].Place t).High ∧ a2[k].Hours.Low ≤ t ∧ t ≤ a2[k].Hours.High := by
  obtain ⟨hr, hrl⟩ := h.lens
  have hm := h.most
  have hln := h.len
  have hb := h.bounds
  have hs : ∀ z ∈ s, z.length ≤ 1000000 := fun z hz => by rw [h.hours z hz]; omega
  have p0 := hp.low
  have p1 := hp.le
  have p2 := hp.high
  have hpt := pt_in hx.side (k : Int)
  have hh := pk_in hpt.1 hpt.2 p1
  have hpick := pick_eq hpt.1 hpt.2 p1 (by omega) (by omega)
  generalize pk a2[k].Hours (pt x.Side (k : Int)) = t at hh hpick
  obtain ⟨hj, _, _⟩ := Of_eq2 hr (show r.Reaches.length ≤ 1000 by omega) hp.place
  have hin := tru_in h hx _ t hj
  have hro := hb.2.2 _ hj
  have hlt := lev_true hro hin.1 hin.2
  have hdl := dAt_le h hp t
  have hdo := dAt_ord h hp (k := t) (by omega) (by omega)
  have hbl := bedOf_le h.river hj (place := a2[k].Place) (h := t) (by omega) (by omega)
  obtain ⟨tp, q, u1, u2, u3, u4, u5, u6⟩ := top_eq (s := s) (x := x) (a2 := a2) (y6 := (flowsTo r s H s.length, 0)) (s84 := sh) (s85 := dp) (s86 := (k : Int)) (y82 := y82) (p := a2[k]) (y140 := (dAt r s a2[k].Place t, 0)) (y142 := (bedOf r (reachNo r a2[k].Place) a2[k].Place t, 0)) (y137 := (levB (reachAt r (reachNo r a2[k].Place)) ⟨truA r s x (reachNo r a2[k].Place) t, truA r s x (reachNo r a2[k].Place) t⟩, 0)) h hx hp (t := t) (by omega) (by omega)
  have hsm := step5_small (tp := tp) (lv := levB (reachAt r (reachNo r a2[k].Place)) ⟨truA r s x (reachNo r a2[k].Place) t, truA r s x (reachNo r a2[k].Place) t⟩) (da := dAt r s a2[k].Place t) (bd := bedOf r (reachNo r a2[k].Place) a2[k].Place t) (lo := (levB (reachAt r (reachNo r a2[k].Place)) (flowAt r s (reachNo r a2[k].Place) t)).Low) (hi := (levB (reachAt r (reachNo r a2[k].Place)) (flowAt r s (reachNo r a2[k].Place) t)).High)
    hlt.2.2.2.2.2.2.1 hlt.2.2.2.2.2.2.2.1 hlt.2.2.2.2.2.2.2.2.1 hlt.2.2.2.2.2.2.2.2.2 u5 u6 hbl.1 hbl.2.1 hbl.2.2.1 hbl.2.2.2 hdl.1 hdl.2.1 hdl.2.2.1 hdl.2.2.2 hdo u3 u4 (by rw [← mm_max]; rfl) (by rw [← mm_max]; rfl) hlt.2.2.2.2.1 hlt.2.2.2.2.2.1
  obtain ⟨c1, c2, c3, c4, c5, c6, c7, c8, c9⟩ := hsm
  have hst := step5_form (y82 := y82) (sh := sh) (dp := dp) (p := a2[k]) (k := (k : Int)) (y6 := (flowsTo r s H s.length, 0)) (row := rowOf r s H (reachNo r a2[k].Place)) (rc := reachAt r (reachNo r a2[k].Place)) (by simpa using hk) (idx?_nat hk) (part_eq (by omega)) hpick
    (number_eq hr (by omega) hp.place) (decide_eq_false (by omega)) (by rw [idx?_nat (by rw [flowsTo_length]; omega), flowsTo_get]) (by rw [rowOf_length]; exact decide_eq_false (by omega)) (truly_eq h hx hj (by omega) (by omega)) (copied_ok h) (by rw [idx?_nat hj, reachAt_eq hj]) (Level_true h hx hj t) (forecast_ok h)
    (DepthAt h hz hs hp (by omega) (by omega)) (BedAt h hp (by omega) (by omega)) (part_eq (by omega)) u1 u2 c1 c2 c3 c4 c5
  rw [c6, c7, wr_nat (by omega)] at hst
  exact ⟨_, _, t, hst, Int.le_max_left _ _, Int.le_max_left _ _, c8, c9, hh.1, hh.2⟩
theorem pass_all (h : FcOk r s H) (hz : startErr r s = 0) (hx : TrOk x) (hk2 : a2.length ≤ 1000) (hw : ∀ y ∈ a2, PassOk r H y) {lo : Int} (hlo : ∀ y ∈ a2, lo ≤ (passLo r s y).1) : ∀ (m : List TPass) (k : Nat) (sh dp : Int), a2.drop k = m → (sh = -1 ∨ 24 * lo ≤ sh ∧ 0 ≤ sh) → (dp = -1 ∨ 0 ≤ dp) → (0 < k → 0 ≤ sh ∧ 0 ≤ dp) → (∀ y ∈ a2.take k, dp ≤ 24 * passHi r s y) →
    ∃ sh' dp', loopC (L_thalweglaw01_RiverTruths_5 a2 (flowsTo r s H s.length, 0) ⟨r, s⟩ x y82).step (sh, dp, (k : Int)) = some (.inl (sh', dp')) ∧ (sh' = -1 ∨ 24 * lo ≤ sh' ∧ 0 ≤ sh') ∧ (0 < a2.length → 0 ≤ sh' ∧ 0 ≤ dp') ∧ ∀ y ∈ a2, dp' ≤ 24 * passHi r s y
  | [], k, sh, dp, hd, i1, i2, i3, i4 => by
    have hkl := drop_nil hd
    refine ⟨sh, dp, ?_, i1, fun h => i3 (by omega), fun y hy => i4 y (by rw [List.take_of_length_le hkl]; exact hy)⟩
    rw [loopC_eq]
    simp [L_thalweglaw01_RiverTruths_5, show ¬ k < a2.length by omega]
  | y :: m, k, sh, dp, hd, i1, i2, i3, i4 => by
    obtain ⟨hk, hg, hd'⟩ := drop_cons hd
    have hpo := hw a2[k] (List.getElem_mem hk)
    obtain ⟨a, b, t, e, a0, b0, e1, e2, e3, e4⟩ := pass_step (y82 := y82) h hz hx hk hk2 hpo sh dp
    have l1 := hlo a2[k] (List.getElem_mem hk)
    have l2 := (passLo_spec (s := s) hpo).2.2.2.1 t e3 e4
    have l3 := (passHi_spec (s := s) hpo).1 t e3 e4
    rw [loopC_eq, e]
    refine pass_all h hz hx hk2 hw hlo m (k + 1) _ _ hd' ?_ ?_ ?_ ?_
    · unfold lessB; split <;> (try split) <;> omega
    · unfold lessB; split <;> (try split) <;> omega
    · intro _; unfold lessB; constructor <;> (split <;> (try split) <;> omega)
    · intro z hz'
      rw [List.take_add_one, List.getElem?_eq_getElem hk] at hz'
      simp only [Option.toList_some, List.mem_append, List.mem_singleton] at hz'
      rcases hz' with hz' | rfl
      · have := i4 z hz'
        have hk0 : 0 < k := by
          rcases Nat.eq_zero_or_pos k with e0 | e0
          · subst e0; simp at hz'
          · exact e0
        have := i3 hk0
        unfold lessB; split <;> (try split) <;> omega
      · unfold lessB; split <;> (try split) <;> omega
theorem truths_true {w : List TPass} (h1 : r.Reaches.length ≤ 140737488355328) (h2 : s.length ≤ 140737488355328) (hx : TrOk x) : F_thalweglaw01_RiverTruths (⟨r, s⟩, x, w) = some true := by
  simp only [F_thalweglaw01_RiverTruths, valid2_eq h1 h2, Option.bind_some, known_eq]
  cases hV : validF r s with
  | false => rfl
  | true =>
    simp only [Bool.not_true, cond_false]
    by_cases hw : (w.length : Int) > 20
    · rw [decide_eq_true hw]; rfl
    rw [decide_eq_false hw]
    simp only [validF, Bool.and_eq_true, decide_eq_true_eq] at hV
    obtain ⟨_, hz⟩ := hV
    obtain ⟨H, h⟩ := fcOk_of hz
    have hm := h.most
    have hln := h.len
    have hb := h.bounds
    have hp := h.pos
    have hs : ∀ z ∈ s, z.length ≤ 1000000 := fun z hz => by rw [h.hours z hz]; omega
    have hloop : loopC (L_thalweglaw01_RiverTruths_2 w (flowsTo r s H s.length, 0) (levsTo r s H r.Reaches.length, 0) ⟨r, s⟩ x).step 0 = some (.inl ()) := by
      have e0 := loop_range (step := (L_thalweglaw01_RiverTruths_2 w (flowsTo r s H s.length, 0) (levsTo r s H r.Reaches.length, 0) ⟨r, s⟩ x).step) r.Reaches.length (fun k => (k : Int)) (fun _ => true) (e := .inl ()) (f := .inr false) ?_ ?_
      · simpa using e0
      · intro k hk
        have g1 : idx? (levsTo r s H r.Reaches.length) (k : Int) = some (levRow r s H k) := by rw [idx?_nat (by rw [levsTo_length]; exact hk), levsTo_get]
        have g3 : idx? (flowsTo r s H s.length) (k : Int) = some (rowOf r s H k) := by rw [idx?_nat (by rw [flowsTo_length]; omega), flowsTo_get]
        have g0 : idx? s 0 = some s[0] := idx?_nat (l := s) (k := 0) (by omega)
        have := truths_in (a2 := w) h hx hk H 0 (by omega) (by omega)
        unfold L_thalweglaw01_RiverTruths_2
        dsimp only
        rw [flowsTo_length, decide_eq_true (show (k : Int) < (s.length : Int) by omega), cond_true, g3, Option.bind_some, g0, Option.bind_some, rowOf_length, h.hours _ (List.getElem_mem (show 0 < s.length by omega)), bne_self_eq_false, cond_false, g1, Option.bind_some, Option.bind_some, levRow_length, rowOf_length, bne_self_eq_false, cond_false]
        erw [this]
        rw [Option.bind_some, wr_nat (by omega)]
        rfl
      · simp [L_thalweglaw01_RiverTruths_2, flowsTo_length, hln]
    rw [cond_false, copied_ok h, Option.bind_some, forecast_ok h, Option.bind_some, Flows_eq h hz hs, Option.bind_some, Option.bind_some, Option.bind_some, Levels_eq h hz hs, Option.bind_some]
    dsimp only
    rw [bne_self_eq_false, cond_false, cond_false, flowsTo_length, bne_self_eq_false, cond_false, levsTo_length, show (((r.Reaches.length : Int) != (s.length : Int))) = false by simp [hln], cond_false, hloop, Option.bind_some]
    dsimp only
    rw [app_nil (m := w) (n := 24) (by omega) (by omega), Option.bind_some, Option.bind_some, Option.bind_some, Shallowest_eq h hz hs (show w.length ≤ 1000 by omega), Option.bind_some]
    by_cases hwe : wayErr r H w = 0
    · rw [if_pos hwe]
      dsimp only
      rw [bne_self_eq_false, cond_false]
      obtain ⟨hne, hpo⟩ := wayErr_ok hwe
      obtain ⟨mm, hle⟩ := least_of (s := s) h hpo hne
      have hlen : 0 < w.length := by have := hle.lt; omega
      obtain ⟨sh, dp, e, i1, i2, i3⟩ := pass_all (x := x) (y82 := (⟨(leastOf r s w).2.2.1, (leastOf r s w).2.2.2⟩, (leastOf r s w).1, (leastOf r s w).2.1, 0)) h hz hx (show w.length ≤ 1000 by omega) hpo hle.all w 0 (-1) (-1) rfl (.inl rfl) (.inl rfl) (by omega) (by simp)
      have j1 := i2 hlen
      obtain ⟨y, hy, hye⟩ := hle.some
      have j2 := i3 y hy
      have j3 := least_ord h hpo hle
      have j4 := passHi_small h (hpo y hy)
      erw [e]
      rw [Option.bind_some]
      dsimp only
      rw [wr_in (n := 24 * (leastOf r s w).2.2.1) (by omega) (by omega), wr_in (n := 24 * (leastOf r s w).2.2.2) (by omega) (by omega), decide_eq_true (show 24 * (leastOf r s w).2.2.1 ≤ sh by omega), decide_eq_true (show 24 * (leastOf r s w).2.2.2 ≥ dp by omega)]
      rfl
    · rw [if_neg hwe]
      dsimp only
      rw [show (wayErr r H w != 0) = true by simpa using hwe]
      rfl
end
end Go.Ev
/- The law on truths, by what is known of its arguments. -/
set_option linter.unusedVariables false
namespace Go.Ev
theorem byte_of {l : List Int} (h : kLIu8 l) : byteL l := fun x hx => by
  have := h.2 x hx
  simpa [kIu8, IntKind.min, IntKind.max, IntKind.bits, IntKind.signed] using this
theorem truths_law {f : Tthalweglaw01_Forecast} {x : Tthalweglaw01_Truth} {w : List TPass} (h1 : kTthalweglaw01_Forecast f) (h2 : kTthalweglaw01_Truth x) (h3 : kLTPass w) : F_thalweglaw01_RiverTruths (f, x, w) = some true := by
  obtain ⟨r, s⟩ := f
  exact truths_true h1.1.1.1 h1.2.1 ⟨byte_of h2.1, byte_of h2.2.1, byte_of h2.2.2.1, byte_of h2.2.2.2.1⟩
end Go.Ev
