/- A part of the proof of HullFloats. -/
import Derived.Test.YteajfcmpmcopoabGreatW3
/- Chapter 2: loads, and how deep a hull lies. -/
set_option linter.unusedVariables false
set_option linter.unusedSimpArgs false
namespace Go.Ev
set_option maxHeartbeats 1000000

theorem tdiv_tmod {a b : Int} (hb : 0 < b) : b * a.tdiv b + a.tmod b = a ∧ -b < a.tmod b ∧ a.tmod b < b ∧ (0 ≤ a → 0 ≤ a.tmod b) ∧ (a ≤ 0 → a.tmod b ≤ 0) := by
  refine ⟨Int.mul_tdiv_add_tmod a b, ?_, ?_, ?_, ?_⟩
  · rcases Int.le_total 0 a with h | h
    · have := Int.tmod_nonneg b h; omega
    · have h1 := Int.tmod_nonneg b (a := -a) (by omega)
      have h2 := Int.tmod_lt_of_pos (-a) hb
      rw [Int.neg_tmod] at h1 h2; omega
  · exact Int.tmod_lt_of_pos a hb
  · exact fun h => Int.tmod_nonneg b h
  · intro h
    have h1 := Int.tmod_nonneg b (a := -a) (by omega)
    rw [Int.neg_tmod] at h1; omega
theorem tdiv_le {a b : Int} (hb : 0 < b) : -a.natAbs ≤ a.tdiv b ∧ a.tdiv b ≤ a.natAbs := by
  have h : (a.tdiv b).natAbs ≤ a.natAbs := by
    rw [Int.natAbs_tdiv]; exact Nat.div_le_self _ _
  omega
theorem div_of {a b q r : Int} (hb : 0 < b) (h : r + b * q = a) (h0 : 0 ≤ r) (h1 : r < b) : a / b = q := ((Int.ediv_emod_unique hb).2 ⟨h, h0, h1⟩).1
theorem Down_eq {a b : Int} (hb : 0 < b) (ha : a.natAbs ≤ 4611686018427387904) : F_numbers_Down (a, b) = some (a / b) := by
  obtain ⟨h1, h2, h3, h4, h5⟩ := tdiv_tmod (a := a) hb
  have h6 := tdiv_le (a := a) hb
  simp only [F_numbers_Down, nz_of (show b ≠ 0 by omega), Option.bind_some]
  rw [wr_in (n := a.tdiv b) (by omega) (by omega)]
  by_cases c : a.tmod b < 0
  · rw [wr_in (n := a.tdiv b - 1) (by omega) (by omega), div_of (q := a.tdiv b - 1) (r := a.tmod b + b) hb (by rw [Int.mul_sub]; omega) (by omega) (by omega)]
    simp [c]
  · rw [div_of (q := a.tdiv b) (r := a.tmod b) hb (by omega) (by omega) (by omega)]
    simp [c]
theorem div_bound {a b : Int} (hb : 0 < b) : -a.natAbs ≤ a / b ∧ a / b ≤ a.natAbs := by
  have := Int.natAbs_ediv_le_natAbs a b
  omega
theorem Up_eq {a b : Int} (hb : 0 < b) (ha : a.natAbs ≤ 4611686018427387904) : F_numbers_Up (a, b) = some (-((-a) / b)) := by
  have h := div_bound (a := -a) hb
  simp only [F_numbers_Up]
  rw [wr_in (n := 0 - a) (by omega) (by omega), show 0 - a = -a by omega, Down_eq hb (by omega)]
  simp only [Option.bind_some]
  rw [wr_in (by omega) (by omega)]
  simp
theorem Ceil_eq {a b : Int} (hb : 0 < b) (ha : a.natAbs ≤ 4611686018427387904) : F_thalwegref01_Ceil (a, b) = some (-((-a) / b)) := by
  obtain ⟨h1, h2, h3, h4, h5⟩ := tdiv_tmod (a := a) hb
  have h6 := tdiv_le (a := a) hb
  have hq : a.tdiv b * b = a - a.tmod b := by rw [Int.mul_comm]; omega
  have hr : (a.tmod b).natAbs ≤ a.natAbs := by rw [Int.natAbs_tmod]; exact Nat.mod_le _ _
  simp only [F_thalwegref01_Ceil, nz_of (show b ≠ 0 by omega), Option.bind_some]
  rw [wr_in (n := a.tdiv b) (by omega) (by omega), hq, wr_in (n := a - a.tmod b) (by omega) (by omega)]
  by_cases c : 0 < a.tmod b
  · rw [wr_in (n := a.tdiv b + 1) (by omega) (by omega), div_of (a := -a) (q := -(a.tdiv b + 1)) (r := b - a.tmod b) hb (by rw [Int.mul_neg, Int.mul_add]; omega) (by omega) (by omega)]
    simp [show a - a.tmod b < a by omega]
  · rw [div_of (a := -a) (q := -(a.tdiv b)) (r := -a.tmod b) hb (by rw [Int.mul_neg]; omega) (by omega) (by omega)]
    simp [show ¬ (a - a.tmod b < a) by omega]
/-- Less is needed of what is denser. -/
theorem ceil_mono {a c d : Int} (ha : 0 ≤ a) (hd : 0 < d) (hc : d ≤ c) : -((-a) / c) ≤ -((-a) / d) := by
  have h1 : (-a) / d * d ≤ -a := Int.ediv_mul_le _ (by omega)
  have h2 : (-a) / d ≤ 0 := by
    rcases Int.lt_or_le 0 ((-a) / d) with h | h
    · have := Int.mul_pos h hd; omega
    · exact h
  have h3 : (-a) / d ≤ (-a) / c := by
    refine (Int.le_ediv_iff_mul_le (by omega)).2 ?_
    have := Int.mul_le_mul_of_nonpos_left h2 hc
    omega
  omega

/-! loads -/
abbrev HL (h : THull) : List (THullHold × Int) := holdsS h.Sections 0
def sumL : List Int → Int
  | [] => 0
  | n :: l => n + sumL l
def momL (lot L : Int) : List Int → List (THullHold × Int) → Int
  | n :: l, p :: m => n * lot * (2 * p.2 - L) + momL lot L l m
  | _, _ => 0
theorem holdsS_mem : ∀ {m : List THullSection} {t : Int} {p : THullHold × Int}, (∀ x ∈ m, Sec x) → p ∈ holdsS m t → 0 ≤ p.1.Lots ∧ p.1.Lots ≤ 20 ∧ t ≤ p.2 ∧ p.2 ≤ t + lenS m
  | [], _, _, _, h => by cases h
  | x :: m, t, p, hx, h => by
    have hn := lenS_nonneg (m := m) fun y hy => hx y (by simp [hy])
    have hs := hx x (by simp)
    have hl := hs.len
    rw [lenS]
    rcases List.mem_append.1 h with h | h
    · obtain ⟨y, hy, rfl⟩ := List.mem_map.1 h
      have := hs.holds y hy
      simp only
      omega
    · have := holdsS_mem (m := m) (t := t + x.Length) (fun y hy => hx y (by simp [hy])) h
      omega
theorem HL_len {h : THull} (hh : Hl h) : (HL h).length ≤ 4 := by rw [holdsS_length]; exact hh.cnt
theorem HL_mem {h : THull} (hh : Hl h) {p : THullHold × Int} (hp : p ∈ HL h) : 0 ≤ p.1.Lots ∧ p.1.Lots ≤ 20 ∧ 0 ≤ p.2 ∧ p.2 ≤ lenS h.Sections := by
  have := holdsS_mem hh.sec hp
  omega
def loadAll (h : THull) (l : List Int) : Bool := (l.zip (HL h)).all fun p => inB p.1 0 p.2.1.Lots
theorem checkLoad_eq {h : THull} (hh : Hl h) (l : List Int) : F_hull_ship_checkLoad (shipOf h, l) = some (if l.length = (HL h).length then (if loadAll h l then 0 else 3) else 4) := by
  have h4 := HL_len hh
  simp only [F_hull_ship_checkLoad, shipOf, storS, List.length_map]
  by_cases c : l.length = (HL h).length
  · rw [if_pos c, show (((l.length : Nat) : Int) != (((HL h).length : Nat) : Int)) = false by rw [c]; simp]
    simp only [cond_false]
    have hzl : (l.zip (HL h)).length = l.length := by rw [List.length_zip]; omega
    rw [loop_list0 (l.zip (HL h)) (fun p => inB p.1 0 p.2.1.Lots) (e := .inl ()) (f := .inr 3)]
    · rw [show loadAll h l = (l.zip (HL h)).all fun p => inB p.1 0 p.2.1.Lots from rfl]
      cases (l.zip (HL h)).all fun p => inB p.1 0 p.2.1.Lots <;> rfl
    · intro k hk
      rw [hzl] at hk
      have hk2 : k < (HL h).length := by omega
      simp only [L_hull_ship_checkLoad_1, Int.ofNat_lt, hk, decide_true, cond_true, idx?_nat hk, Option.bind_some]
      rw [idx?_nat (show k < ((HL h).map fun p => (⟨p.1, 2 * p.2 - lenS h.Sections⟩ : Thull_hold)).length by rw [List.length_map]; exact hk2)]
      simp only [Option.bind_some, List.getElem_map, within1, List.getElem_zip]
      rw [wr_nat (by omega)]
      cases inB l[k] 0 (HL h)[k].1.Lots <;> rfl
    · rw [hzl]; simp [L_hull_ship_checkLoad_1]
  · rw [if_neg c, show (((l.length : Nat) : Int) != (((HL h).length : Nat) : Int)) = true by rw [bne_iff_ne]; omega]
    rfl
def loadE (h : THull) (l : List Int) (d : TBounds) : Int := if l.length = (HL h).length then (if loadAll h l then (if vB d 900 1100 then 0 else 2) else 3) else 4
theorem rLoad_eq {h : THull} (hs : small h.Sections) (ho : hullOk h = true) (l : List Int) (d : TBounds) : F_thalwegref02_Load (h, l, d) = some (loadE h l d) := by
  have hh := hl_of hs ho
  have h4 := HL_len hh
  simp only [F_thalwegref02_Load, refHull_eq hs, ho, Option.bind_some, Bool.not_true, cond_false, rholds_eq hs hh.sec, refH, List.length_map, loadE]
  by_cases c : l.length = (HL h).length
  · rw [if_pos c, show (((l.length : Nat) : Int) != (((HL h).length : Nat) : Int)) = false by rw [c]; simp]
    simp only [cond_false]
    have hzl : (l.zip (HL h)).length = l.length := by rw [List.length_zip]; omega
    rw [loop_list0 (l.zip (HL h)) (fun p => inB p.1 0 p.2.1.Lots) (e := .inl ()) (f := .inr 3)]
    · rw [show loadAll h l = (l.zip (HL h)).all fun p => inB p.1 0 p.2.1.Lots from rfl]
      cases (l.zip (HL h)).all fun p => inB p.1 0 p.2.1.Lots with
      | false => rfl
      | true =>
        simp only [if_true, Option.bind_some, F_thalwegref02_Density, rvalid_eq]
        cases vB d 900 1100 <;> rfl
    · intro k hk
      rw [hzl] at hk
      have hk2 : k < (HL h).length := by omega
      simp only [L_thalwegref02_Load_1, Int.ofNat_lt, hk, decide_true, cond_true, idx?_nat hk, Option.bind_some]
      rw [idx?_nat (show k < ((HL h).map fun p => (⟨p.2, p.1.Lots⟩ : THullHold)).length by rw [List.length_map]; exact hk2)]
      simp only [Option.bind_some, List.getElem_map, In_eq, List.getElem_zip]
      rw [wr_nat (by omega)]
      cases inB l[k] 0 (HL h)[k].1.Lots <;> rfl
    · rw [hzl]; simp [L_thalwegref02_Load_1]
  · rw [if_neg c, show (((l.length : Nat) : Int) != (((HL h).length : Nat) : Int)) = true by rw [bne_iff_ne]; omega]
    rfl

/-- A load that the holds can take. -/
structure Ld (h : THull) (l : List Int) : Prop where
  hull : Hl h
  len : l.length = (HL h).length
  each : ∀ n ∈ l, 0 ≤ n ∧ n ≤ 20
theorem ld_of {h : THull} (hh : Hl h) {l : List Int} (c : l.length = (HL h).length) (ha : loadAll h l = true) : Ld h l := by
  refine ⟨hh, c, fun n hn => ?_⟩
  obtain ⟨k, hk, rfl⟩ := List.getElem_of_mem hn
  have hz : k < (l.zip (HL h)).length := by rw [List.length_zip]; omega
  have := List.all_eq_true.1 ha _ (List.getElem_mem hz)
  rw [List.getElem_zip] at this
  simp only [inB_iff] at this
  have hm := HL_mem hh (List.getElem_mem (show k < (HL h).length by omega))
  omega
theorem prod_bound {n lot a : Int} (hn : 0 ≤ n ∧ n ≤ 20) (hl : 1 ≤ lot ∧ lot ≤ 1000) (ha : a.natAbs ≤ 1000) : (n * lot).natAbs ≤ 20000 ∧ 0 ≤ n * lot ∧ (n * lot * a).natAbs ≤ 20000000 := by
  have h1 : (n * lot).natAbs ≤ 20 * 1000 := mulB (by omega) (by omega)
  have h2 : (n * lot * a).natAbs ≤ 20000 * 1000 := mulB (by omega) ha
  have h3 : 0 ≤ n * lot := Int.mul_nonneg hn.1 (by omega)
  omega
theorem loaded_loop {h : THull} (hh : Hl h) (l : List Int) (hl : l.length ≤ 4) : ∀ (ns : List Int) (ps : List (THullHold × Int)) (k : Nat) (v w : Int), l.drop k = ns → (HL h).drop k = ps → ns.length = ps.length → (∀ n ∈ ns, 0 ≤ n ∧ n ≤ 20) → 0 ≤ v → v ≤ 20 * k → w.natAbs ≤ 1000000000 + 20000000 * k →
    loopC (L_hull_ship_loaded_1 l (shipOf h)).step (v, w, (k : Int)) = some (v + sumL ns, w + momL h.Lot (lenS h.Sections) ns ps)
  | [], ps, k, v, w, hd, _, _, _, _, _, _ => by
    have := drop_nil hd
    rw [loopC_eq]
    simp [L_hull_ship_loaded_1, sumL, momL, show ¬ k < l.length by omega]
  | n :: ns, [], k, v, w, _, _, hln, _, _, _, _ => by simp at hln
  | n :: ns, p :: ps, k, v, w, hd, hp, hln, hn, h0, h1, h2 => by
    obtain ⟨hk, hg, hd'⟩ := drop_cons hd
    obtain ⟨hk2, hg2, hp'⟩ := drop_cons hp
    have hb := hn n (by simp)
    have hlot := hh.lot
    have hm := HL_mem hh (List.getElem_mem hk2)
    have hL := hh.len
    have hL0 := lenS_nonneg hh.sec
    rw [hg2] at hm
    obtain ⟨b1, b2, b3⟩ := prod_bound hb hlot (show (2 * p.2 - lenS h.Sections).natAbs ≤ 1000 by omega)
    have e : (L_hull_ship_loaded_1 l (shipOf h)).step (v, w, (k : Int)) = some (.inl (v + n, w + n * h.Lot * (2 * p.2 - lenS h.Sections), ((k + 1 : Nat) : Int))) := by
      simp only [L_hull_ship_loaded_1, shipOf, storS, Int.ofNat_lt, hk, decide_true, cond_true, idx?_nat hk, hg, Option.bind_some]
      rw [idx?_nat (show k < ((HL h).map fun p => (⟨p.1, 2 * p.2 - lenS h.Sections⟩ : Thull_hold)).length by rw [List.length_map]; exact hk2)]
      simp only [Option.bind_some, List.getElem_map, hg2]
      rw [wr_nat (by omega), wr_in (n := v + n) (by omega) (by omega), wr_in (n := n * h.Lot) (by omega) (by omega), wr_in (n := n * h.Lot * (2 * p.2 - lenS h.Sections)) (by omega) (by omega), wr_in (by omega) (by omega)]
    rw [loopC_eq, e]
    simp only
    rw [loaded_loop hh l hl ns ps (k + 1) _ _ hd' hp' (by simpa using hln) (fun y hy => hn y (by simp [hy])) (by omega) (by omega) (by omega)]
    simp only [sumL, momL, Int.add_assoc]
theorem momS_bound {L : Int} (hL : 0 ≤ L ∧ L ≤ 1000) : ∀ (m : List THullSection) (t : Int), (∀ x ∈ m, Sec x) → 0 ≤ t → t + 100 * m.length ≤ 1000 → (momS L m t).natAbs ≤ 40000000 * m.length
  | [], _, _, _, _ => by simp [momS]
  | x :: m, t, hx, h0, h1 => by
    have hs := hx x (by simp)
    have hl := hs.len
    have hli := hs.light
    simp only [List.length_cons] at h1 ⊢
    have hp : (x.Light * (2 * t + x.Length - L)).natAbs ≤ 10000 * 4000 := mulB (by omega) (by omega)
    have := momS_bound hL m (t + x.Length) (fun y hy => hx y (by simp [hy])) (by omega) (by omega)
    rw [momS]
    omega
/-- The moment of a loaded hull. -/
def momOf (h : THull) (l : List Int) : Int := momS (lenS h.Sections) h.Sections 0 + momL h.Lot (lenS h.Sections) l (HL h)
theorem mom0_bound {h : THull} (hh : Hl h) : (momS (lenS h.Sections) h.Sections 0).natAbs ≤ 240000000 := by
  have := momS_bound (L := lenS h.Sections) ⟨lenS_nonneg hh.sec, by have := hh.len; omega⟩ h.Sections 0 hh.sec (by omega) (by have := hh.one; omega)
  have := hh.one
  omega
theorem loaded_eq {h : THull} {l : List Int} (hl : Ld h l) : F_hull_ship_loaded (shipOf h, l) = some (sumL l, momOf h l) := by
  have hh := hl.hull
  have h4 := HL_len hh
  have hm := mom0_bound hh
  simp only [F_hull_ship_loaded]
  rw [show ((0 : Int), (shipOf h).moment_, (0 : Int)) = (0, momS (lenS h.Sections) h.Sections 0, ((0 : Nat) : Int)) from rfl, loaded_loop hh l (by have := hl.len; omega) l (HL h) 0 0 _ rfl rfl hl.len hl.each (by omega) (by omega) (by omega), Int.zero_add]
  rfl
theorem momL_bound {lot L : Int} (hlot : 1 ≤ lot ∧ lot ≤ 1000) : ∀ (ns : List Int) (ps : List (THullHold × Int)), (∀ n ∈ ns, 0 ≤ n ∧ n ≤ 20) → (∀ p ∈ ps, (2 * p.2 - L).natAbs ≤ 1000) → (momL lot L ns ps).natAbs ≤ 20000000 * ns.length
  | [], ps, _, _ => by simp [momL]
  | n :: ns, [], _, _ => by simp [momL]
  | n :: ns, p :: ps, hn, hp => by
    obtain ⟨_, _, b3⟩ := prod_bound (hn n (by simp)) hlot (hp p (by simp))
    have := momL_bound (L := L) hlot ns ps (fun y hy => hn y (by simp [hy])) (fun y hy => hp y (by simp [hy]))
    rw [momL, List.length_cons]
    omega
theorem momOf_bound {h : THull} {l : List Int} (hl : Ld h l) : (momOf h l).natAbs ≤ 400000000 := by
  have hh := hl.hull
  have h4 := HL_len hh
  have hm := mom0_bound hh
  have hL := hh.len
  have hL0 := lenS_nonneg hh.sec
  have := momL_bound (L := lenS h.Sections) hh.lot l (HL h) hl.each (fun p hp => by have := HL_mem hh hp; omega)
  have := hl.len
  unfold momOf
  omega

/-! the reference -/
theorem rmass1_loop (h : THull) (a1 : List Int) (hl : h.Sections.length ≤ 10) : ∀ (m : List THullSection) (k : Nat) (s : Int), h.Sections.drop k = m → (∀ x ∈ m, Sec x) → 0 ≤ s → s ≤ 10000 * k → loopC (L_thalwegref02_Mass_1 a1 h).step (s, (k : Int)) = some (s + lightS m)
  | [], k, s, hd, _, _, _ => by
    have := drop_nil hd
    rw [loopC_eq]
    simp [L_thalwegref02_Mass_1, lightS, show ¬ k < h.Sections.length by omega]
  | x :: m, k, s, hd, hx, h0, h1 => by
    obtain ⟨hk, hg, hd'⟩ := drop_cons hd
    have := (hx x (by simp)).light
    have e : (L_thalwegref02_Mass_1 a1 h).step (s, (k : Int)) = some (.inl (s + x.Light, ((k + 1 : Nat) : Int))) := by
      simp only [L_thalwegref02_Mass_1, Int.ofNat_lt, hk, decide_true, cond_true, idx?_nat hk, hg, Option.bind_some]
      rw [wr_nat (by omega), wr_in (by omega) (by omega)]
    rw [loopC_eq, e]
    simp only
    rw [rmass1_loop h a1 hl m (k + 1) _ hd' (fun y hy => hx y (by simp [hy])) (by omega) (by omega), lightS, Int.add_assoc]
theorem rtrim_loop (h : THull) (y1 : Int) (hl : h.Sections.length ≤ 10) : ∀ (m : List THullSection) (k : Nat) (s : Int), h.Sections.drop k = m → (∀ x ∈ m, Sec x) → 0 ≤ s → s ≤ 100000 * k → loopC (L_thalwegref02_Trim_1 y1 h).step (s, (k : Int)) = some (s + trimS m)
  | [], k, s, hd, _, _, _ => by
    have := drop_nil hd
    rw [loopC_eq]
    simp [L_thalwegref02_Trim_1, trimS, show ¬ k < h.Sections.length by omega]
  | x :: m, k, s, hd, hx, h0, h1 => by
    obtain ⟨hk, hg, hd'⟩ := drop_cons hd
    have := (hx x (by simp)).trim
    have e : (L_thalwegref02_Trim_1 y1 h).step (s, (k : Int)) = some (.inl (s + x.Trim, ((k + 1 : Nat) : Int))) := by
      simp only [L_thalwegref02_Trim_1, Int.ofNat_lt, hk, decide_true, cond_true, idx?_nat hk, hg, Option.bind_some]
      rw [wr_nat (by omega), wr_in (by omega) (by omega)]
    rw [loopC_eq, e]
    simp only
    rw [rtrim_loop h y1 hl m (k + 1) _ hd' (fun y hy => hx y (by simp [hy])) (by omega) (by omega), trimS, Int.add_assoc]
theorem rmass2_loop (h : THull) (hlot : 1 ≤ h.Lot ∧ h.Lot ≤ 1000) (l : List Int) (hl : l.length ≤ 4) : ∀ (ns : List Int) (k : Nat) (s : Int), l.drop k = ns → (∀ n ∈ ns, 0 ≤ n ∧ n ≤ 20) → 0 ≤ s → s ≤ 100000 + 20000 * k → loopC (L_thalwegref02_Mass_2 l h).step (s, (k : Int)) = some (s + sumL ns * h.Lot)
  | [], k, s, hd, _, _, _ => by
    have := drop_nil hd
    rw [loopC_eq]
    simp [L_thalwegref02_Mass_2, sumL, show ¬ k < l.length by omega]
  | n :: ns, k, s, hd, hn, h0, h1 => by
    obtain ⟨hk, hg, hd'⟩ := drop_cons hd
    obtain ⟨b1, b2, _⟩ := prod_bound (hn n (by simp)) hlot (show (0 : Int).natAbs ≤ 1000 by simp)
    have e : (L_thalwegref02_Mass_2 l h).step (s, (k : Int)) = some (.inl (s + n * h.Lot, ((k + 1 : Nat) : Int))) := by
      simp only [L_thalwegref02_Mass_2, Int.ofNat_lt, hk, decide_true, cond_true, idx?_nat hk, hg, Option.bind_some]
      rw [wr_nat (by omega), wr_in (n := n * h.Lot) (by omega) (by omega), wr_in (by omega) (by omega)]
    rw [loopC_eq, e]
    simp only
    rw [rmass2_loop h hlot l hl ns (k + 1) _ hd' (fun y hy => hn y (by simp [hy])) (by omega) (by omega), sumL, Int.add_mul, Int.add_assoc]
theorem sums_bound : ∀ {m : List THullSection}, (∀ x ∈ m, Sec x) → 0 ≤ lightS m ∧ lightS m ≤ 10000 * m.length ∧ (m.length : Int) ≤ trimS m ∧ trimS m ≤ 100000 * m.length
  | [], _ => by simp [lightS, trimS]
  | x :: m, h => by
    have h1 := (h x (by simp)).light
    have h2 := (h x (by simp)).trim
    have h3 := sums_bound (m := m) fun y hy => h y (by simp [hy])
    rw [lightS, trimS, List.length_cons]; omega
theorem sumL_bound : ∀ {ns : List Int}, (∀ n ∈ ns, 0 ≤ n ∧ n ≤ 20) → 0 ≤ sumL ns ∧ sumL ns ≤ 20 * ns.length
  | [], _ => by simp [sumL]
  | n :: ns, h => by
    have h1 := h n (by simp)
    have h2 := sumL_bound (ns := ns) fun y hy => h y (by simp [hy])
    rw [sumL, List.length_cons]; omega
/-- The mass of a loaded hull. -/
def massOf (h : THull) (l : List Int) : Int := lightS h.Sections + sumL l * h.Lot
theorem mass_bound {h : THull} {l : List Int} (hl : Ld h l) : 0 ≤ massOf h l ∧ massOf h l ≤ 140000 ∧ 0 ≤ sumL l * h.Lot ∧ sumL l * h.Lot ≤ 80000 ∧ lightS h.Sections ≤ 60000 ∧ 0 ≤ lightS h.Sections := by
  have hh := hl.hull
  have h4 := HL_len hh
  have h5 := hl.len
  have h6 := hh.one
  have h7 := sums_bound hh.sec
  have h8 := sumL_bound hl.each
  have h9 : (sumL l * h.Lot).natAbs ≤ 80 * 1000 := mulB (by omega) (by have := hh.lot; omega)
  have h10 : 0 ≤ sumL l * h.Lot := Int.mul_nonneg h8.1 (by have := hh.lot; omega)
  unfold massOf
  omega
theorem rMass_eq {h : THull} {l : List Int} (hl : Ld h l) : F_thalwegref02_Mass (h, l) = some (massOf h l) := by
  have hh := hl.hull
  have hb := mass_bound hl
  have h4 := HL_len hh
  simp only [F_thalwegref02_Mass]
  rw [show ((0 : Int), (0 : Int)) = (0, ((0 : Nat) : Int)) from rfl, rmass1_loop h l hh.small.1 h.Sections 0 0 rfl hh.sec (by omega) (by omega), Int.zero_add]
  simp only [Option.bind_some]
  rw [show (lightS h.Sections, (0 : Int)) = (lightS h.Sections, ((0 : Nat) : Int)) from rfl, rmass2_loop h hh.lot l (by have := hl.len; omega) l 0 _ rfl hl.each (by omega) (by omega)]
  rfl
theorem rmom1_loop (h : THull) (hs : small h.Sections) (a1 : List Int) (y2 : List THullHold) (L : Int) (hL : 0 ≤ L ∧ L ≤ 1000) : ∀ (m : List THullSection) (k : Nat) (t mo : Int), h.Sections.drop k = m → (∀ x ∈ m, Sec x) → k ≤ 10 → 0 ≤ t → t ≤ 100 * k → mo.natAbs ≤ 100000000 * k →
    loopC (L_thalwegref02_Moment_1 a1 L y2 h).step (mo, t, (k : Int)) = some (mo + momS L m t)
  | [], k, t, mo, hd, _, _, _, _, _ => by
    have := drop_nil hd
    rw [loopC_eq]
    simp [L_thalwegref02_Moment_1, momS, show ¬ k < h.Sections.length by omega]
  | x :: m, k, t, mo, hd, hx, hk10, h0, h1, h2 => by
    obtain ⟨hk, hg, hd'⟩ := drop_cons hd
    have hsx := hx x (by simp)
    have hl := hsx.len
    have hli := hsx.light
    have h10 := hs.1
    have hp : (x.Light * (2 * t + x.Length - L)).natAbs ≤ 10000 * 4000 := mulB (by omega) (by omega)
    have e : (L_thalwegref02_Moment_1 a1 L y2 h).step (mo, t, (k : Int)) = some (.inl (mo + x.Light * (2 * t + x.Length - L), t + x.Length, ((k + 1 : Nat) : Int))) := by
      simp only [L_thalwegref02_Moment_1, Int.ofNat_lt, hk, decide_true, cond_true, idx?_nat hk, hg, Option.bind_some]
      rw [wr_nat (by omega), wr_in (n := 2 * t) (by omega) (by omega), wr_in (n := 2 * t + x.Length) (by omega) (by omega), wr_in (n := 2 * t + x.Length - L) (by omega) (by omega), wr_in (n := x.Light * (2 * t + x.Length - L)) (by omega) (by omega), wr_in (n := mo + x.Light * (2 * t + x.Length - L)) (by omega) (by omega), wr_in (by omega) (by omega)]
    rw [loopC_eq, e]
    simp only
    rw [rmom1_loop h hs a1 y2 L hL m (k + 1) _ _ hd' (fun y hy => hx y (by simp [hy])) (by omega) (by omega) (by omega) (by omega), momS, Int.add_assoc]
theorem rmom2_loop {h : THull} (hh : Hl h) (l : List Int) (hl : l.length ≤ 4) : ∀ (ns : List Int) (ps : List (THullHold × Int)) (k : Nat) (w : Int), l.drop k = ns → (HL h).drop k = ps → ns.length = ps.length → (∀ n ∈ ns, 0 ≤ n ∧ n ≤ 20) → w.natAbs ≤ 1000000000 + 20000000 * k →
    loopC (L_thalwegref02_Moment_2 l (lenS h.Sections) (refH h) h).step (w, (k : Int)) = some (w + momL h.Lot (lenS h.Sections) ns ps)
  | [], ps, k, w, hd, _, _, _, _ => by
    have := drop_nil hd
    rw [loopC_eq]
    simp [L_thalwegref02_Moment_2, momL, show ¬ k < l.length by omega]
  | n :: ns, [], k, w, _, _, hln, _, _ => by simp at hln
  | n :: ns, p :: ps, k, w, hd, hp, hln, hn, h2 => by
    obtain ⟨hk, hg, hd'⟩ := drop_cons hd
    obtain ⟨hk2, hg2, hp'⟩ := drop_cons hp
    have hb := hn n (by simp)
    have hlot := hh.lot
    have hm := HL_mem hh (List.getElem_mem hk2)
    have hL := hh.len
    have hL0 := lenS_nonneg hh.sec
    rw [hg2] at hm
    obtain ⟨b1, b2, b3⟩ := prod_bound hb hlot (show (2 * p.2 - lenS h.Sections).natAbs ≤ 1000 by omega)
    have e : (L_thalwegref02_Moment_2 l (lenS h.Sections) (refH h) h).step (w, (k : Int)) = some (.inl (w + n * h.Lot * (2 * p.2 - lenS h.Sections), ((k + 1 : Nat) : Int))) := by
      simp only [L_thalwegref02_Moment_2, refH, Int.ofNat_lt, hk, decide_true, cond_true, idx?_nat hk, hg, Option.bind_some]
      rw [idx?_nat (show k < ((HL h).map fun p => (⟨p.2, p.1.Lots⟩ : THullHold)).length by rw [List.length_map]; exact hk2)]
      simp only [Option.bind_some, List.getElem_map, hg2]
      rw [wr_nat (by omega), wr_in (n := n * h.Lot) (by omega) (by omega), wr_in (n := 2 * p.2) (by omega) (by omega), wr_in (n := 2 * p.2 - lenS h.Sections) (by omega) (by omega), wr_in (n := n * h.Lot * (2 * p.2 - lenS h.Sections)) (by omega) (by omega), wr_in (by omega) (by omega)]
    rw [loopC_eq, e]
    simp only
    rw [rmom2_loop hh l hl ns ps (k + 1) _ hd' hp' (by simpa using hln) (fun y hy => hn y (by simp [hy])) (by omega), momL, Int.add_assoc]
theorem rMoment_eq {h : THull} {l : List Int} (hl : Ld h l) : F_thalwegref02_Moment (h, l) = some (momOf h l) := by
  have hh := hl.hull
  have h4 := HL_len hh
  have hm := mom0_bound hh
  have hL := hh.len
  have hL0 := lenS_nonneg hh.sec
  simp only [F_thalwegref02_Moment, rlength_eq hh.small.1 hh.sec, rholds_eq hh.small hh.sec, Option.bind_some]
  rw [show ((0 : Int), (0 : Int), (0 : Int)) = (0, 0, ((0 : Nat) : Int)) from rfl, rmom1_loop h hh.small l (refH h) (lenS h.Sections) (by omega) h.Sections 0 0 0 rfl hh.sec (by omega) (by omega) (by omega) (by simp), Int.zero_add]
  simp only [Option.bind_some]
  rw [show (momS (lenS h.Sections) h.Sections 0, (0 : Int)) = (momS (lenS h.Sections) h.Sections 0, ((0 : Nat) : Int)) from rfl, rmom2_loop hh l (by have := hl.len; omega) l (HL h) 0 _ rfl rfl hl.len hl.each (by omega)]
  rfl
/-- By how much the deeper end is deeper. -/
def moreOf (h : THull) (l : List Int) : Int := -((-(minmax true (momOf h l) (0 - momOf h l))) / (4 * trimS h.Sections))
theorem abs_bound {h : THull} {l : List Int} (hl : Ld h l) : 0 ≤ minmax true (momOf h l) (0 - momOf h l) ∧ minmax true (momOf h l) (0 - momOf h l) ≤ 400000000 := by
  have := momOf_bound hl
  simp only [minmax, if_true]
  split <;> omega
theorem trim_pos {h : THull} (hh : Hl h) : 1 ≤ trimS h.Sections ∧ trimS h.Sections ≤ 600000 := by
  have := sums_bound hh.sec
  have := hh.one
  omega
theorem more_bound {h : THull} {l : List Int} (hl : Ld h l) : 0 ≤ moreOf h l ∧ moreOf h l ≤ 400000000 := by
  have h1 := abs_bound hl
  have h2 := trim_pos hl.hull
  have h3 := div_bound (a := -(minmax true (momOf h l) (0 - momOf h l))) (b := 4 * trimS h.Sections) (by omega)
  have h4 : (-(minmax true (momOf h l) (0 - momOf h l))) / (4 * trimS h.Sections) ≤ 0 := by
    have := Int.ediv_le_ediv (c := 4 * trimS h.Sections) (by omega) (show -(minmax true (momOf h l) (0 - momOf h l)) ≤ 0 by omega)
    rwa [Int.zero_ediv] at this
  unfold moreOf
  omega
theorem rTrim_eq {h : THull} {l : List Int} (hl : Ld h l) : F_thalwegref02_Trim (h, l) = some (moreOf h l) := by
  have hh := hl.hull
  have hm := momOf_bound hl
  have ha := abs_bound hl
  have ht := trim_pos hh
  simp only [F_thalwegref02_Trim, rMoment_eq hl, Option.bind_some]
  rw [show ((0 : Int), (0 : Int)) = (0, ((0 : Nat) : Int)) from rfl, rtrim_loop h _ hh.small.1 h.Sections 0 0 rfl hh.sec (by omega) (by omega), Int.zero_add]
  simp only [Option.bind_some]
  rw [wr_in (n := 0 - momOf h l) (by omega) (by omega), wr_in (n := 4 * trimS h.Sections) (by omega) (by omega), Ceil_eq (by omega) (by omega)]
  rfl

/-! the mean draft -/
def needOf (h : THull) (l : List Int) (d : Int) : Int := -((-(massOf h l * 1000)) / d)
theorem mean_both {h : THull} {l : List Int} (hl : Ld h l) {lim : Nat} (hlim : limS h.Sections 1000 = (lim : Int)) {d : Int} (h9 : 900 ≤ d) (h11 : d ≤ 1100) : ∃ r : Nat, r ≤ lim + 1 ∧ F_hull_ship_mean (shipOf h, sumL l, d) = some (r : Int) ∧ F_thalwegref02_Mean (h, l, d) = some (if r ≤ lim then (r : Int) else -1) ∧
    (∀ j : Nat, j < r → volS h.Sections j < needOf h l d) ∧ (r ≤ lim → needOf h l d ≤ volS h.Sections r) := by
  have hh := hl.hull
  have hb := mass_bound hl
  have h10 := hh.small.1
  have hle := (lim_le h.Sections 1000).1
  have hfit : ∀ k : Nat, k ≤ lim → fits h.Sections (k : Int) := fun k hk => fits_of (l := 1000) (by omega) (by omega)
  obtain ⟨r, r1, r2, r3, r4⟩ := search_eq (n := lim + 1) (by omega) (fun k => decide (volS h.Sections (k : Int) ≥ needOf h l d)) (fun q => F_hull_ship_mean_1 (q, shipOf h, needOf h l d)) 119
    [(V.fptr [(V.v (.int .i64 ((shipOf h).Hull.Lot))), (V.sl (recs eTHullSection ((shipOf h).Hull.Sections)) ((shipOf h).Hull.Sections).length), (V.v (.int .i64 ((shipOf h).limit_))), (V.v (.int .i64 ((shipOf h).trim_))), (V.v (.int .i64 ((shipOf h).mass_))), (V.v (.int .i64 ((shipOf h).moment_))), (V.sl (recs eThull_hold ((shipOf h).storage_)) ((shipOf h).storage_).length)]), (V.fptr [(V.v (.int .i64 (needOf h l d)))])]
    (fun k hk => by simp only [F_hull_ship_mean_1, volume_eq (s := shipOf h) h10 hh.sec (hfit k (by omega)), Option.bind_some]; rfl)
    (fun j k hjk hk hq => by
      have := vol_mono (m := h.Sections) (d := (j : Int)) (d' := (k : Int)) hh.sec (by omega) (by omega) (hfit k (by omega))
      simp only [decide_eq_true_eq] at hq ⊢
      omega)
  have r3' : ∀ j : Nat, j < r → volS h.Sections j < needOf h l d := fun j hj => by have := r3 j hj; simp only [decide_eq_false_iff_not] at this; omega
  have r4' : r ≤ lim → needOf h l d ≤ volS h.Sections r := fun hr => by have := r4 (by omega); simp only [decide_eq_true_eq] at this; omega
  refine ⟨r, r1, ?_, ?_, r3', r4'⟩
  · simp only [F_hull_ship_mean]
    rw [show (shipOf h).mass_ = lightS h.Sections from rfl, show (shipOf h).Hull.Lot = h.Lot from rfl, show (shipOf h).limit_ = (lim : Int) from hlim, wr_in (n := sumL l * h.Lot) (by omega) (by omega), wr_in (n := lightS h.Sections + sumL l * h.Lot) (by omega) (by omega),
      show lightS h.Sections + sumL l * h.Lot = massOf h l from rfl, wr_in (n := massOf h l * 1000) (by omega) (by omega), Up_eq (by omega) (by omega)]
    simp only [Option.bind_some]
    rw [wr_nat (by omega), show -((-(massOf h l * 1000)) / d) = needOf h l d from rfl]
    have := r2
    rw [show (shipOf h).limit_ = (lim : Int) from hlim, show (shipOf h).mass_ = lightS h.Sections from rfl, show (shipOf h).Hull.Lot = h.Lot from rfl] at this
    rw [this]
    rfl
  · simp only [F_thalwegref02_Mean, rMass_eq hl, Option.bind_some]
    rw [wr_in (n := massOf h l * 1000) (by omega) (by omega), Ceil_eq (by omega) (by omega)]
    simp only [Option.bind_some]
    rw [show -((-(massOf h l * 1000)) / d) = needOf h l d from rfl]
    have hstep : ∀ k : Nat, k < r → (L_thalwegref02_Mean_1 (needOf h l d) h).step (k : Int) = some (.inl ((k + 1 : Nat) : Int)) := by
      intro k hk
      have := r3' k hk
      simp only [L_thalwegref02_Mean_1, rLimit_eq h10 hh.sec, hlim, Option.bind_some]
      rw [show decide (((k : Nat) : Int) ≤ (lim : Int)) = true from decide_eq_true (by omega)]
      simp only [cond_true, rVolume_eq h10 hh.sec (hfit k (by omega)), Option.bind_some]
      rw [show decide (volS h.Sections (k : Int) ≥ needOf h l d) = false from decide_eq_false (by omega), wr_nat (by omega)]
      rfl
    have hloop : loopC (L_thalwegref02_Mean_1 (needOf h l d) h).step 0 = some (if r ≤ lim then .inr (r : Int) else .inl ()) := by
      refine loop_run (E := Unit ⊕ Int) (fun k : Nat => (k : Int)) r hstep ?_
      simp only [L_thalwegref02_Mean_1, rLimit_eq h10 hh.sec, hlim, Option.bind_some]
      by_cases c : r ≤ lim
      · have := r4' c
        rw [if_pos c, show decide (((r : Nat) : Int) ≤ (lim : Int)) = true from decide_eq_true (by omega)]
        simp only [cond_true, rVolume_eq h10 hh.sec (hfit r c), Option.bind_some]
        rw [show decide (volS h.Sections (r : Int) ≥ needOf h l d) = true from decide_eq_true (by omega)]
        rfl
      · rw [if_neg c, show decide (((r : Nat) : Int) ≤ (lim : Int)) = false from decide_eq_false (by omega)]
        rfl
    rw [hloop]
    by_cases c : r ≤ lim
    · rw [if_pos c, if_pos c]; rfl
    · rw [if_neg c, if_neg c]; rfl

theorem compare_eq (m : Int) : F_cmp_Compare_int (m, 0) = some (if m < 0 then -1 else if m > 0 then 1 else 0) := by
  simp only [F_cmp_Compare_int, F_cmp_isNaN_int, Option.bind_some, bne_self_eq_false, cond_false]
  by_cases c1 : m < 0
  · simp [c1]
  · by_cases c2 : m > 0
    · simp [c1, c2]
    · simp [c1, c2]
def noFloat : THullFloat := ⟨⟨0, 0⟩, ⟨0, 0⟩, 0⟩
theorem float_both {h : THull} {l : List Int} (hl : Ld h l) {d : TBounds} (hd : vB d 900 1100 = true) : ∃ z ok, F_thalwegref02_Float (h, l, d) = some (z, ok) ∧ F_hull_ship_float (shipOf h, l, d) = some (bif ok then (z, 0) else (noFloat, 8)) := by
  have hh := hl.hull
  simp only [vB, inB, Bool.and_eq_true, decide_eq_true_eq] at hd
  obtain ⟨lim, hlim⟩ := Int.eq_ofNat_of_zero_le (lim_nonneg h.Sections 1000 hh.sec (by omega))
  have hle := (lim_le h.Sections 1000).1
  obtain ⟨r, r1, r2, r3, r4, r5⟩ := mean_both hl hlim (d := d.High) (by omega) (by omega)
  obtain ⟨s, s1, s2, s3, s4, s5⟩ := mean_both hl hlim (d := d.Low) (by omega) (by omega)
  have hmb := mass_bound hl
  have hneed : needOf h l d.High ≤ needOf h l d.Low := ceil_mono (by omega) (by omega) (by omega)
  have hrs : s ≤ lim → r ≤ s := by
    intro hs
    rcases Nat.lt_or_ge s r with c | c
    · have := r4 s c; have := s5 hs; omega
    · exact c
  have hmo := more_bound hl
  have hm := momOf_bound hl
  have ha := abs_bound hl
  have ht := trim_pos hh
  have e : F_hull_ship_float (shipOf h, l, d) = some (bif decide ((s : Int) + moreOf h l > (lim : Int)) then (noFloat, 8) else (⟨⟨r, s⟩, ⟨r + moreOf h l, s + moreOf h l⟩, if momOf h l < 0 then -1 else if momOf h l > 0 then 1 else 0⟩, 0)) := by
    simp only [F_hull_ship_float, loaded_eq hl, Option.bind_some, r2, s2, F_hull_withoutSign]
    rw [wr_in (n := 0 - momOf h l) (by omega) (by omega), show (shipOf h).trim_ = trimS h.Sections from rfl, wr_in (n := 4 * trimS h.Sections) (by omega) (by omega), Up_eq (by omega) (by omega)]
    simp only [Option.bind_some]
    rw [show -((-(minmax true (momOf h l) (0 - momOf h l))) / (4 * trimS h.Sections)) = moreOf h l from rfl, wr_in (n := (s : Int) + moreOf h l) (by omega) (by omega), wr_in (n := (r : Int) + moreOf h l) (by omega) (by omega), show (shipOf h).limit_ = (lim : Int) from hlim, compare_eq]
    cases decide ((s : Int) + moreOf h l > (lim : Int)) <;> rfl
  rw [e]
  simp only [F_thalwegref02_Float, r3, s3, rTrim_eq hl, rMoment_eq hl, Option.bind_some]
  by_cases c : s ≤ lim
  · have hr := hrs c
    rw [if_pos (show r ≤ lim by omega), if_pos c, show decide (((s : Nat) : Int) < 0) = false from decide_eq_false (by omega)]
    simp only [cond_false, rLimit_eq hh.small.1 hh.sec, hlim, Option.bind_some]
    rw [wr_in (n := (s : Int) + moreOf h l) (by omega) (by omega), wr_in (n := (r : Int) + moreOf h l) (by omega) (by omega)]
    cases hf : decide ((s : Int) + moreOf h l > (lim : Int)) with
    | true => exact ⟨_, false, rfl, rfl⟩
    | false =>
      by_cases c1 : momOf h l < 0
      · exact ⟨⟨⟨r, s⟩, ⟨r + moreOf h l, s + moreOf h l⟩, -1⟩, true, by simp only [c1, decide_true, cond_true, show ¬ momOf h l > 0 by omega, decide_false, cond_false], by simp only [cond_true, cond_false, c1, if_true]⟩
      · by_cases c2 : momOf h l > 0
        · exact ⟨⟨⟨r, s⟩, ⟨r + moreOf h l, s + moreOf h l⟩, 1⟩, true, by simp only [c1, decide_false, cond_false, c2, decide_true, cond_true], by simp only [cond_true, cond_false, c1, if_false, c2, if_true]⟩
        · exact ⟨⟨⟨r, s⟩, ⟨r + moreOf h l, s + moreOf h l⟩, 0⟩, true, by simp only [c1, decide_false, cond_false, c2], by simp only [cond_true, cond_false, c1, if_false, c2]⟩
  · rw [if_neg c]
    refine ⟨_, false, rfl, ?_⟩
    rw [show decide ((s : Int) + moreOf h l > (lim : Int)) = true from decide_eq_true (by omega)]
    rfl
end Go.Ev
/- Chapter 2: the law HullFloats is true. -/
set_option linter.unusedVariables false
set_option linter.unusedSimpArgs false
namespace Go.Ev
set_option maxHeartbeats 1000000

theorem app_nil' {α : Type} {m : List α} {n : Nat} (h : m.length * n ≤ 140737488355328) (hn : 0 < n) : app? [] m n = some m := app_nil h hn
def greatOk (x : THullSection) : Bool := decide (x.Curve.length ≤ 25) && decide (x.Holds.length ≤ 8)
theorem great_step (h : THull) {k : Nat} (hk : k < h.Sections.length) (h11 : k < 11) (hl : h.Sections.length ≤ 140737488355328) : (L_thalweglaw02_great_1 h).step (k : Int) = some (if greatOk h.Sections[k] then .inl ((k + 1 : Nat) : Int) else .inr (.inr true)) := by
  simp only [L_thalweglaw02_great_1, Int.ofNat_lt, hk, decide_true, cond_true, show decide (((k : Nat) : Int) < 11) = true from decide_eq_true (by omega), idx?_nat hk, Option.bind_some, greatOk]
  rw [wr_nat (by omega)]
  by_cases c1 : h.Sections[k].Curve.length ≤ 25
  · by_cases c2 : h.Sections[k].Holds.length ≤ 8
    · simp [c1, c2, show ¬ ((h.Sections[k].Curve.length : Int) > 25) by omega, show ¬ ((h.Sections[k].Holds.length : Int) > 8) by omega]
    · simp [c1, c2, show ¬ ((h.Sections[k].Curve.length : Int) > 25) by omega, show ((h.Sections[k].Holds.length : Int) > 8) by omega]
  · simp [c1, show ((h.Sections[k].Curve.length : Int) > 25) by omega]
theorem great_eq (h : THull) (hl : h.Sections.length ≤ 140737488355328) : ∃ b, F_thalweglaw02_great h = some b ∧ (b = false → small h.Sections) := by
  by_cases c : h.Sections.length ≤ 11
  · have hloop : loopC (L_thalweglaw02_great_1 h).step 0 = some (if h.Sections.all greatOk then .inl () else .inr true) := by
      refine loop_list0 h.Sections greatOk (fun k hk => great_step h hk (by omega) hl) ?_
      simp [L_thalweglaw02_great_1]
    simp only [F_thalweglaw02_great, hloop]
    cases ha : h.Sections.all greatOk with
    | false => exact ⟨true, rfl, fun h => by cases h⟩
    | true =>
      refine ⟨decide ((h.Sections.length : Int) > 10), rfl, fun hb => ⟨by have := of_decide_eq_false hb; omega, fun x hx => ?_⟩⟩
      have := List.all_eq_true.1 ha x hx
      simpa only [greatOk, Bool.and_eq_true, decide_eq_true_eq] using this
  · refine ⟨true, ?_, fun h => by cases h⟩
    have hloop : loopC (L_thalweglaw02_great_1 h).step 0 = some (if (List.range 11).all (fun k => greatOk (h.Sections[k]?.getD ⟨0, 0, 0, [], []⟩)) then .inl () else .inr true) := by
      refine loop_range0 11 _ (fun k hk => ?_) ?_
      · rw [great_step h (show k < h.Sections.length by omega) hk hl]
        simp [show k < h.Sections.length by omega]
      · simp only [L_thalweglaw02_great_1]
        rw [show decide (((11 : Nat) : Int) < (h.Sections.length : Int)) = true from decide_eq_true (by omega)]
        rfl
    simp only [F_thalweglaw02_great, hloop]
    cases (List.range 11).all (fun k => greatOk (h.Sections[k]?.getD ⟨0, 0, 0, [], []⟩)) with
    | false => rfl
    | true =>
      simp only [if_true, Option.bind_some]
      rw [show decide ((h.Sections.length : Int) > 10) = true from decide_eq_true (by omega)]
theorem own_eq {h : THull} (hs : small h.Sections) : F_thalweglaw02_own h = some h := by
  have hloop : loopC (L_thalweglaw02_own_1 h).step (0, ([] : List THullSection)) = some h.Sections := by
    refine loop_run (fun k : Nat => ((k : Int), h.Sections.take k)) h.Sections.length (e := h.Sections) (fun k hk => ?_) ?_
    · have h10 := hs.1
      have hb := hs.2 _ (List.getElem_mem hk)
      simp only [L_thalweglaw02_own_1, Int.ofNat_lt, hk, decide_true, cond_true, idx?_nat hk, Option.bind_some]
      rw [app_nil (m := h.Sections[k].Curve) (n := 16) (by omega) (by decide), app_nil (m := h.Sections[k].Holds) (n := 16) (by omega) (by decide)]
      simp only [Option.bind_some]
      rw [app_of (by simp; omega) (by decide), wr_nat (by omega)]
      simp only [Option.bind_some, List.take_succ_eq_append_getElem hk]
    · simp [L_thalweglaw02_own_1]
  simp only [F_thalweglaw02_own, hloop]
  rfl
theorem row_self (x : THullRow) : (x.Draft == x.Draft && (x.Volume == x.Volume && true)) = true := by simp
theorem hold_self (x : THullHold) : (x.At == x.At && (x.Lots == x.Lots && true)) = true := by simp
theorem same_eq {h : THull} (hs : small h.Sections) : F_thalweglaw02_same (h, h) = some true := by
  have hloop : loopC (L_thalweglaw02_same_3 h h).step 0 = some (.inl ()) := by
    refine loop_run (E := Unit ⊕ Bool) (fun k : Nat => (k : Int)) h.Sections.length (e := .inl ()) (fun k hk => ?_) ?_
    · have h10 := hs.1
      have hb := hs.2 _ (List.getElem_mem hk)
      have l1 : loopC (L_thalweglaw02_same_1 (k : Int) h h h.Sections[k] h.Sections[k]).step 0 = some (.inl ()) := by
        refine loop_run (E := Unit ⊕ Bool) (fun j : Nat => (j : Int)) h.Sections[k].Curve.length (e := .inl ()) (fun j hj => ?_) ?_
        · simp only [L_thalweglaw02_same_1, Int.ofNat_lt, hj, decide_true, cond_true, idx?_nat hj, Option.bind_some, row_self, Bool.not_true, cond_false]
          rw [wr_nat (by omega)]
        · simp [L_thalweglaw02_same_1]
      have l2 : loopC (L_thalweglaw02_same_2 (k : Int) h h h.Sections[k] h.Sections[k]).step 0 = some (.inl ()) := by
        refine loop_run (E := Unit ⊕ Bool) (fun j : Nat => (j : Int)) h.Sections[k].Holds.length (e := .inl ()) (fun j hj => ?_) ?_
        · simp only [L_thalweglaw02_same_2, Int.ofNat_lt, hj, decide_true, cond_true, idx?_nat hj, Option.bind_some, hold_self, Bool.not_true, cond_false]
          rw [wr_nat (by omega)]
        · simp [L_thalweglaw02_same_2]
      simp only [L_thalweglaw02_same_3, Int.ofNat_lt, hk, decide_true, cond_true, idx?_nat hk, Option.bind_some, bne_self_eq_false, cond_false, l1, l2]
      rw [wr_nat (by omega)]
    · simp [L_thalweglaw02_same_3]
  simp only [F_thalweglaw02_same, bne_self_eq_false, cond_false, hloop]
  rfl
theorem equal_eq {l : List Int} (hl : l.length ≤ 1000) : F_thalweglaw02_equal (l, l) = some true := by
  have hloop : loopC (L_thalweglaw02_equal_1 l l).step 0 = some (.inl ()) := by
    refine loop_run (E := Unit ⊕ Bool) (fun k : Nat => (k : Int)) l.length (e := .inl ()) (fun k hk => ?_) ?_
    · simp only [L_thalweglaw02_equal_1, Int.ofNat_lt, hk, decide_true, cond_true, idx?_nat hk, Option.bind_some, bne_self_eq_false, cond_false]
      rw [wr_nat (by omega)]
    · simp [L_thalweglaw02_equal_1]
  simp only [F_thalweglaw02_equal, bne_self_eq_false, cond_false, hloop]
  rfl
theorem knownZ_eq : F_thalweglaw02_known () = some true := rfl
theorem Volume_eq {h : THull} (hs : small h.Sections) (d : Int) : F_hull_Volume (h, d) = some (bif hullOk h then (bif inB d 0 (limS h.Sections 1000) then (volS h.Sections d, 0) else (0, 3)) else (0, 2)) := by
  simp only [F_hull_Volume, launch_eq hs, Option.bind_some]
  cases ho : hullOk h with
  | false => rfl
  | true =>
    have hh := hl_of hs ho
    simp only [cond_true, bne_self_eq_false, cond_false, within1, Option.bind_some, show (shipOf h).limit_ = limS h.Sections 1000 from rfl]
    cases hi : inB d 0 (limS h.Sections 1000) with
    | false => rfl
    | true =>
      rw [inB_iff] at hi
      simp only [Bool.not_true, cond_false, cond_true, volume_eq (s := shipOf h) hs.1 hh.sec (fits_of hi.1 hi.2), Option.bind_some]
      rfl
theorem Float_bad {h : THull} (hs : small h.Sections) (ho : hullOk h = false) (l : List Int) (d : TBounds) : F_hull_Float (h, l, d) = some (noFloat, 2) := by
  simp only [F_hull_Float, launch_eq hs, Option.bind_some, ho]
  rfl
theorem Float_eq {h : THull} (hs : small h.Sections) (ho : hullOk h = true) (l : List Int) (d : TBounds) : ∃ y, F_hull_Float (h, l, d) = some y ∧ ((loadE h l d ≠ 0 ∧ y = (noFloat, loadE h l d)) ∨ (loadE h l d = 0 ∧ ∃ z ok, F_thalwegref02_Float (h, l, d) = some (z, ok) ∧ y = bif ok then (z, 0) else (noFloat, 8))) := by
  have hh := hl_of hs ho
  simp only [F_hull_Float, launch_eq hs, Option.bind_some, ho, cond_true, bne_self_eq_false, cond_false, checkLoad_eq hh l]
  by_cases c1 : l.length = (HL h).length
  · rw [if_pos c1]
    cases c2 : loadAll h l with
    | false => exact ⟨(noFloat, 3), rfl, .inl ⟨by simp [loadE, c1, c2], by simp [loadE, c1, c2]⟩⟩
    | true =>
      simp only [if_true, bne_self_eq_false, cond_false, F_hull_validDensity, valid_eq, Option.bind_some]
      cases c3 : vB d 900 1100 with
      | false => exact ⟨(noFloat, 2), rfl, .inl ⟨by simp [loadE, c1, c2, c3], by simp [loadE, c1, c2, c3]⟩⟩
      | true =>
        obtain ⟨z, ok, e1, e2⟩ := float_both (ld_of hh c1 c2) c3
        simp only [Bool.not_true, cond_false, e2, Option.bind_some]
        exact ⟨_, rfl, .inr ⟨by simp [loadE, c1, c2, c3], z, ok, e1, rfl⟩⟩
  · rw [if_neg c1]
    exact ⟨(noFloat, 4), rfl, .inl ⟨by simp [loadE, c1], by simp [loadE, c1]⟩⟩
theorem float_self (a : THullFloat) : (a.Mean.Low == a.Mean.Low && (a.Mean.High == a.Mean.High && (a.Deep.Low == a.Deep.Low && (a.Deep.High == a.Deep.High && (a.Head == a.Head && true))))) = true := by simp

theorem floats_true {h : THull} {l : List Int} {d : TBounds} {draft : Int} (h1 : h.Sections.length ≤ 140737488355328) : F_thalweglaw02_HullFloats (⟨h, l, d⟩, draft) = some true := by
  obtain ⟨b, hb, hsm⟩ := great_eq h h1
  simp only [F_thalweglaw02_HullFloats, hb, Option.bind_some, knownZ_eq]
  cases b with
  | true => rfl
  | false =>
    have hs := hsm rfl
    simp only [cond_false]
    by_cases c0 : l.length > 20
    · rw [show decide ((l.length : Int) > 20) = true from decide_eq_true (by omega)]; rfl
    · rw [show decide ((l.length : Int) > 20) = false from decide_eq_false (by omega)]
      simp only [cond_false, own_eq hs, F_thalweglaw02_numbers, Option.bind_some]
      rw [app_nil (m := l) (n := 8) (by omega) (by decide)]
      simp only [Option.bind_some, Check_eq hs, Volume_eq hs, same_eq hs, equal_eq (show l.length ≤ 1000 by omega), refHull_eq hs, Bool.not_true, cond_false]
      cases ho : hullOk h with
      | false =>
        simp only [cond_false, Option.bind_some, Float_bad hs ho]
        rfl
      | true =>
        have hh := hl_of hs ho
        obtain ⟨y, hy, hcase⟩ := Float_eq hs ho l d
        simp only [cond_true, Option.bind_some, hy, Bool.not_true, cond_false, rLoad_eq hs ho, rLimit_eq hs.1 hh.sec]
        have hn := lim_nonneg h.Sections 1000 hh.sec (by omega)
        by_cases c1 : draft < 0
        · have hi : inB draft 0 (limS h.Sections 1000) = false := by rw [Bool.eq_false_iff]; intro hc; rw [inB_iff] at hc; omega
          rw [hi]
          rcases hcase with ⟨e0, rfl⟩ | ⟨e0, z, ok, e1, rfl⟩
          · have hb0 : (loadE h l d == 0) = false := by rw [beq_eq_false_iff_ne]; exact e0
            simp [c1, hb0, noFloat]
          · cases ok <;> simp [c1, e0, e1, noFloat]
        · by_cases c2 : draft > limS h.Sections 1000
          · have hi : inB draft 0 (limS h.Sections 1000) = false := by rw [Bool.eq_false_iff]; intro hc; rw [inB_iff] at hc; omega
            rw [hi]
            rcases hcase with ⟨e0, rfl⟩ | ⟨e0, z, ok, e1, rfl⟩
            · have hb0 : (loadE h l d == 0) = false := by rw [beq_eq_false_iff_ne]; exact e0
              simp [c1, c2, hb0, noFloat]
            · cases ok <;> simp [c1, c2, e0, e1, noFloat]
          · have hi : inB draft 0 (limS h.Sections 1000) = true := by rw [inB_iff]; omega
            rw [hi]
            have hv := rVolume_eq (s := h) hs.1 hh.sec (fits_of (m := h.Sections) (l := 1000) (show 0 ≤ draft by omega) (show draft ≤ limS h.Sections 1000 by omega))
            rcases hcase with ⟨e0, rfl⟩ | ⟨e0, z, ok, e1, rfl⟩
            · have hb0 : (loadE h l d == 0) = false := by rw [beq_eq_false_iff_ne]; exact e0
              simp [c1, c2, hb0, hv, noFloat]
            · cases ok <;> simp [c1, c2, e0, e1, hv, noFloat]
end Go.Ev
/- The law HullFloats, by what is known of its arguments. -/
set_option linter.unusedVariables false
namespace Go.Ev
theorem floats_law {x : Tthalweglaw02_Loaded} {a : Int} (h1 : kTthalweglaw02_Loaded x) (h2 : kIi64 a) : F_thalweglaw02_HullFloats (x, a) = some true := by
  obtain ⟨h, l, d⟩ := x
  exact floats_true h1.1.2.1
end Go.Ev
