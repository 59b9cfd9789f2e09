/- A part of the proof of HullWears. -/
import Derived.Test.YteajfcmpmcopoabW4
/- Chapter 2: plates; the law HullLives is true. -/
set_option linter.unusedVariables false
set_option linter.unusedSimpArgs false
namespace Go.Ev
set_option maxHeartbeats 1000000

theorem every_int {l : List Int} {p : Int → Option Bool} {q : Int → Bool} {g : FuncId} {caps : List V} (hp : ∀ x ∈ l, p x = some (q x)) (hl : l.length ≤ 4611686018427387904) : F_numbers_Every_int (l, p, g, caps) = some (l.all q) := by
  unfold F_numbers_Every_int
  simp only
  rw [show (0 : Int) = ((0 : Nat) : Int) from rfl, loop_list l (fun k => (k : Int)) q (e := .inl ()) (f := .inr false)]
  · cases l.all q <;> rfl
  · intro k hk
    simp only [L_numbers_Every_int_1, Int.ofNat_lt, hk, decide_true, cond_true, idx?_nat hk, Option.bind_some, hp _ (List.getElem_mem hk), wr_nat (show k < 9223372036854775807 by omega)]
    cases q l[k] <;> rfl
  · simp [L_numbers_Every_int_1]
theorem every_HullPlate {l : List THullPlate} {p : THullPlate → Option Bool} {q : THullPlate → Bool} {g : FuncId} {caps : List V} (hp : ∀ x ∈ l, p x = some (q x)) (hl : l.length ≤ 4611686018427387904) : F_numbers_Every_HullPlate (l, p, g, caps) = some (l.all q) := by
  unfold F_numbers_Every_HullPlate
  simp only
  rw [show (0 : Int) = ((0 : Nat) : Int) from rfl, loop_list l (fun k => (k : Int)) q (e := .inl ()) (f := .inr false)]
  · cases l.all q <;> rfl
  · intro k hk
    simp only [L_numbers_Every_HullPlate_1, Int.ofNat_lt, hk, decide_true, cond_true, idx?_nat hk, Option.bind_some, hp _ (List.getElem_mem hk), wr_nat (show k < 9223372036854775807 by omega)]
    cases q l[k] <;> rfl
  · simp [L_numbers_Every_HullPlate_1]
theorem bif_and (a b : Bool) : (bif a then some b else some false) = some (a && b) := by cases a <;> rfl
theorem within1_eq (n a b : Int) : F_numbers_Within_1 (n, a, b) = some (inB n a b) := by
  simp only [F_numbers_Within_1, bif_and, inB]
theorem within_eq (a b : Int) (l : List Int) (hl : l.length ≤ 4611686018427387904) : F_numbers_Within (a, b, l) = some (l.all fun n => inB n a b) := by
  simp only [F_numbers_Within]
  rw [every_int (q := fun n => inB n a b) (fun x _ => within1_eq x a b) hl]
  rfl
theorem within1 (a b n : Int) : F_numbers_Within (a, b, [n]) = some (inB n a b) := by rw [within_eq _ _ _ (by simp)]; simp
theorem within2 (a b n m : Int) : F_numbers_Within (a, b, [n, m]) = some (inB n a b && inB m a b) := by rw [within_eq _ _ _ (by simp)]; simp
def vB (b : TBounds) (x y : Int) : Bool := decide (b.Low ≤ b.High) && (inB b.Low x y && inB b.High x y)
theorem valid_eq (b : TBounds) (x y : Int) : F_numbers_Valid (b, x, y) = some (vB b x y) := by
  simp only [F_numbers_Valid, within2, Option.bind_some, bif_and, vB]
theorem drop_cons {α : Type} {l m : List α} {k : Nat} {x : α} (h : l.drop k = x :: m) : ∃ hk : k < l.length, l[k] = x ∧ l.drop (k + 1) = m := by
  have hk : k < l.length := by
    have := congrArg List.length h
    simp at this
    omega
  rw [List.drop_eq_getElem_cons hk] at h
  cases h
  exact ⟨hk, rfl, rfl⟩
theorem drop_nil {α : Type} {l : List α} {k : Nat} (h : l.drop k = []) : l.length ≤ k := by simpa using h

/-- How many years a plate lasts. -/
def yr (t w least : Int) : Int := if t < least then -1 else if w = 0 then 1000 else min ((t - least).tdiv w) 1000
/-- Numbers that a plate can have. -/
def okN (t w least : Int) : Prop := 0 ≤ t ∧ t ≤ 100000 ∧ 0 ≤ w ∧ w ≤ 1000 ∧ 0 ≤ least ∧ least ≤ 100000
theorem lasts_eq {t w least : Int} (h : okN t w least) : F_hull_lasts (wr (t - least), w) = some (yr t w least) := by
  obtain ⟨h1, h2, h3, h4, h5, h6⟩ := h
  rw [wr_in (by omega) (by omega)]
  simp only [F_hull_lasts, yr]
  by_cases c1 : t < least
  · rw [if_pos c1, show decide (t - least < 0) = true by simp; omega]; rfl
  · rw [if_neg c1, show decide (t - least < 0) = false by simp; omega]
    simp only [cond_false]
    by_cases c2 : w = 0
    · simp [c2]
    · rw [if_neg c2, show (w == 0) = false by simpa using c2]
      simp only [cond_false]
      rw [nz_of c2]
      simp only [Option.bind_some]
      have hq0 : 0 ≤ (t - least).tdiv w := Int.tdiv_nonneg (by omega) h3
      have hq1 : (t - least).tdiv w ≤ t - least := Int.tdiv_le_self _ (by omega)
      rw [wr_in (by omega) (by omega)]
      simp only [minmax, Bool.false_eq_true, if_false, Option.some.injEq]
      split <;> omega
theorem yr_bound {t w least : Int} (h : okN t w least) : -1 ≤ yr t w least ∧ yr t w least ≤ 1000 := by
  obtain ⟨h1, h2, h3, h4, h5, h6⟩ := h
  unfold yr
  split
  · omega
  · split
    · omega
    · have hq0 : 0 ≤ (t - least).tdiv w := Int.tdiv_nonneg (by omega) h3
      omega
/-- A plate lasts for k years more just if k is at most its years. -/
theorem yr_le {t w least : Int} (h : okN t w least) {k : Nat} (hk : k ≤ 1000) : ((k : Int) ≤ yr t w least) ↔ (t - (k : Int) * w ≥ least) := by
  obtain ⟨h1, h2, h3, h4, h5, h6⟩ := h
  unfold yr
  by_cases c1 : t < least
  · rw [if_pos c1]
    have : 0 ≤ (k : Int) * w := Int.mul_nonneg (by omega) h3
    omega
  · rw [if_neg c1]
    by_cases c2 : w = 0
    · rw [if_pos c2, c2, Int.mul_zero]; omega
    · rw [if_neg c2]
      have hw : 0 < w := by omega
      have e : (t - least).tdiv w = (t - least) / w := Int.tdiv_eq_ediv_of_nonneg (by omega)
      rw [e]
      have := Int.le_ediv_iff_mul_le (a := (k : Int)) (b := t - least) hw
      omega
theorem mul_small {k : Nat} {w : Int} (hk : k ≤ 1000) (h3 : 0 ≤ w) (h4 : w ≤ 1000) : 0 ≤ (k : Int) * w ∧ (k : Int) * w ≤ 1000000 := by
  refine ⟨Int.mul_nonneg (by omega) h3, ?_⟩
  have h := Int.mul_le_mul (show (k : Int) ≤ 1000 by omega) h4 h3 (by omega : (0 : Int) ≤ 1000)
  omega
theorem years_eq {t w least : Int} (h : okN t w least) : F_thalwegref02_Years (t, w, least) = some (yr t w least) := by
  have hb := yr_bound h
  have hle := fun (k : Nat) (hk : k ≤ 1000) => yr_le h hk
  obtain ⟨h1, h2, h3, h4, h5, h6⟩ := h
  simp only [F_thalwegref02_Years]
  by_cases c1 : t < least
  · simp [c1, yr]
  · simp only [c1, decide_false, cond_false]
    have h0 : 0 ≤ yr t w least := (hle 0 (by omega)).2 (by simp; omega)
    obtain ⟨n, hn⟩ := Int.eq_ofNat_of_zero_le h0
    rw [hn] at hb hle ⊢
    rw [show (0 : Int) = ((0 : Nat) : Int) from rfl, loop_run (fun k : Nat => (k : Int)) n (e := (n : Int))]
    · rfl
    · intro k hk
      have hm := mul_small (k := k + 1) (by omega) h3 h4
      have := (hle (k + 1) (by omega)).1 (by omega)
      simp only [L_thalwegref02_Years_1]
      rw [wr_nat (by omega), wr_in (n := ((k + 1 : Nat) : Int) * w) (by omega) (by omega), wr_in (by omega) (by omega)]
      rw [show decide ((k : Int) < 1000) = true by simp; omega, show decide (t - ((k + 1 : Nat) : Int) * w ≥ least) = true from decide_eq_true this]
      rfl
    · simp only [L_thalwegref02_Years_1]
      by_cases c2 : n = 1000
      · subst c2; rfl
      · have hm := mul_small (k := n + 1) (by omega) h3 h4
        have hno : ¬ (t - ((n + 1 : Nat) : Int) * w ≥ least) := fun hc => by have := (hle (n + 1) (by omega)).2 hc; omega
        rw [wr_nat (by omega), wr_in (n := ((n + 1 : Nat) : Int) * w) (by omega) (by omega), wr_in (by omega) (by omega)]
        rw [show decide ((n : Int) < 1000) = true by simp; omega, show decide (t - ((n + 1 : Nat) : Int) * w ≥ least) = false from decide_eq_false hno]
        rfl

/-- The bounds of the years, the first plate with the least of them, from the kth plate on. -/
def lifeGo (least : Int) : List THullPlate → Nat → Int × Int × Int → Int × Int × Int
  | [], _, s => s
  | x :: m, k, (low, high, plate) => lifeGo least m (k + 1) (if yr x.Thick.Low x.Wear.High least < low then (yr x.Thick.Low x.Wear.High least, minmax false high (yr x.Thick.High x.Wear.Low least), (k : Int)) else (low, minmax false high (yr x.Thick.High x.Wear.Low least), plate))
def plateOk (x : THullPlate) : Bool := vB x.Thick 0 100000 && vB x.Wear 0 1000
theorem plate_nums {x : THullPlate} {least : Int} (h : plateOk x = true) (h5 : 0 ≤ least) (h6 : least ≤ 100000) : okN x.Thick.Low x.Wear.High least ∧ okN x.Thick.High x.Wear.Low least := by
  simp only [plateOk, vB, inB, Bool.and_eq_true, decide_eq_true_eq] at h
  exact ⟨⟨by omega, by omega, by omega, by omega, by omega, by omega⟩, ⟨by omega, by omega, by omega, by omega, by omega, by omega⟩⟩
theorem life_loop {l : List THullPlate} {least : Int} (h5 : 0 ≤ least) (h6 : least ≤ 100000) (hl : l.length ≤ 1000) : ∀ (m : List THullPlate) (k : Nat) (low high plate : Int), l.drop k = m → (∀ x ∈ m, plateOk x = true) → k ≤ l.length →
    loopC (L_hull_Life_1 least l).step ((k : Int), low, high, plate) = some ((lifeGo least m k (low, high, plate)).2.2, (lifeGo least m k (low, high, plate)).1, (lifeGo least m k (low, high, plate)).2.1)
  | [], k, low, high, plate, h, _, hk => by
    have := drop_nil h
    rw [loopC_eq]
    simp [L_hull_Life_1, lifeGo, show ¬ k < l.length by omega]
  | x :: m, k, low, high, plate, h, hx, hk => by
    obtain ⟨hl', hg, hd⟩ := drop_cons h
    obtain ⟨a1, a2⟩ := plate_nums (hx x (by simp)) h5 h6
    rw [loopC_eq]
    simp only [L_hull_Life_1, Int.ofNat_lt, hl', decide_true, cond_true, idx?_nat hl', hg, Option.bind_some, lasts_eq a1, lasts_eq a2, lifeGo]
    rw [wr_nat (by omega)]
    by_cases c : yr x.Thick.Low x.Wear.High least < low
    · rw [if_pos c]
      simp only [c, decide_true, cond_true]
      exact life_loop h5 h6 hl m (k + 1) _ _ _ hd (fun y hy => hx y (by simp [hy])) (by omega)
    · rw [if_neg c]
      simp only [c, decide_false, cond_false]
      exact life_loop h5 h6 hl m (k + 1) _ _ _ hd (fun y hy => hx y (by simp [hy])) (by omega)
theorem rlife_loop {l : List THullPlate} {least : Int} (h5 : 0 ≤ least) (h6 : least ≤ 100000) (hl : l.length ≤ 1000) : ∀ (m : List THullPlate) (k : Nat) (low high plate : Int), l.drop k = m → (∀ x ∈ m, plateOk x = true) → k ≤ l.length →
    loopC (L_thalwegref02_Life_1 l least).step ((k : Int), low, high, plate) = some ((lifeGo least m k (low, high, plate)).2.2, (lifeGo least m k (low, high, plate)).1, (lifeGo least m k (low, high, plate)).2.1)
  | [], k, low, high, plate, h, _, hk => by
    have := drop_nil h
    rw [loopC_eq]
    simp [L_thalwegref02_Life_1, lifeGo, show ¬ k < l.length by omega]
  | x :: m, k, low, high, plate, h, hx, hk => by
    obtain ⟨hl', hg, hd⟩ := drop_cons h
    obtain ⟨a1, a2⟩ := plate_nums (hx x (by simp)) h5 h6
    rw [loopC_eq]
    simp only [L_thalwegref02_Life_1, Int.ofNat_lt, hl', decide_true, cond_true, idx?_nat hl', hg, Option.bind_some, years_eq a1, years_eq a2, lifeGo]
    rw [wr_nat (by omega)]
    by_cases c : yr x.Thick.Low x.Wear.High least < low
    · rw [if_pos c]
      simp only [c, decide_true, cond_true]
      exact rlife_loop h5 h6 hl m (k + 1) _ _ _ hd (fun y hy => hx y (by simp [hy])) (by omega)
    · rw [if_neg c]
      simp only [c, decide_false, cond_false]
      exact rlife_loop h5 h6 hl m (k + 1) _ _ _ hd (fun y hy => hx y (by simp [hy])) (by omega)

/-- The error of plates. -/
def lifeErr (l : List THullPlate) (least : Int) : Int := if l.length = 0 then 4 else if l.length > 50 then 5 else if !(l.all plateOk) then 2 else if !(inB least 0 100000) then 3 else 0
def lifeOf (l : List THullPlate) (least : Int) : Int × Int × Int := lifeGo least l 0 (1000, 1000, 0)
theorem Life_eq (l : List THullPlate) (least : Int) : F_hull_Life (l, least) = some (if lifeErr l least = 0 then (⟨(lifeOf l least).1, (lifeOf l least).2.1⟩, (lifeOf l least).2.2, 0) else (⟨0, 0⟩, 0, lifeErr l least)) := by
  simp only [F_hull_Life, lifeErr]
  by_cases c1 : l.length = 0
  · simp [c1]
  · simp only [show (((l.length : Nat) : Int) == 0) = false by rw [beq_eq_false_iff_ne]; omega, cond_false, c1, if_false]
    by_cases c2 : l.length > 50
    · simp [c2, show ((l.length : Int) > 50) by omega]
    · simp only [show decide ((l.length : Int) > 50) = false by simp; omega, cond_false, c2, if_false]
      rw [every_HullPlate (q := plateOk) (fun x _ => by
        simp only [F_hull_Life_1, valid_eq, Option.bind_some, plateOk]
        cases vB x.Thick 0 100000 <;> rfl) (by omega)]
      simp only [Option.bind_some]
      cases c3 : l.all plateOk with
      | false => rfl
      | true =>
        simp only [Bool.not_true, cond_false, within1, Option.bind_some, Bool.false_eq_true, if_false]
        cases c4 : inB least 0 100000 with
        | false => rfl
        | true =>
          rw [inB_iff] at c4
          simp only [Bool.not_true, cond_false, Bool.false_eq_true, if_false, if_true]
          rw [show ((0 : Int), (1000 : Int), (1000 : Int), (0 : Int)) = (((0 : Nat) : Int), 1000, 1000, 0) from rfl, life_loop c4.1 c4.2 (by omega) l 0 1000 1000 0 rfl (fun x hx => List.all_eq_true.1 c3 x hx) (by omega)]
          rfl
theorem rLife_eq {l : List THullPlate} {least : Int} (h : lifeErr l least = 0) : F_thalwegref02_Life (l, least) = some (⟨(lifeOf l least).1, (lifeOf l least).2.1⟩, (lifeOf l least).2.2) := by
  unfold lifeErr at h
  split at h
  · cases h
  · next c1 =>
    split at h
    · cases h
    · next c2 =>
      split at h
      · cases h
      · next c3 =>
        split at h
        · cases h
        · next c4 =>
          simp only [Bool.not_eq_true', Bool.not_eq_false] at c3 c4
          rw [inB_iff] at c4
          simp only [F_thalwegref02_Life]
          rw [show ((0 : Int), (1000000 : Int), (1000000 : Int), (0 : Int)) = (((0 : Nat) : Int), 1000000, 1000000, 0) from rfl, rlife_loop c4.1 c4.2 (by omega) l 0 1000000 1000000 0 rfl (fun x hx => List.all_eq_true.1 c3 x hx) (by omega)]
          have hfirst : lifeGo least l 0 (1000000, 1000000, 0) = lifeOf l least := by
            unfold lifeOf
            cases l with
            | nil => simp at c1
            | cons x m =>
              obtain ⟨a1, a2⟩ := plate_nums (List.all_eq_true.1 c3 x (by simp)) c4.1 c4.2
              have b1 := yr_bound a1
              have b2 := yr_bound a2
              simp only [lifeGo]
              have e1 : minmax false 1000000 (yr x.Thick.High x.Wear.Low least) = yr x.Thick.High x.Wear.Low least := by simp [minmax]; omega
              have e2 : minmax false 1000 (yr x.Thick.High x.Wear.Low least) = yr x.Thick.High x.Wear.Low least := by simp only [minmax, Bool.false_eq_true, if_false]; split <;> omega
              rw [e1, e2, if_pos (by omega)]
              by_cases c : yr x.Thick.Low x.Wear.High least < 1000
              · rw [if_pos c]
              · rw [if_neg c, show yr x.Thick.Low x.Wear.High least = 1000 by omega]; rfl
          rw [hfirst]
          rfl

theorem plate_self (x : THullPlate) : (x.Thick.Low == x.Thick.Low && (x.Thick.High == x.Thick.High && (x.Wear.Low == x.Wear.Low && (x.Wear.High == x.Wear.High && true)))) = true := by simp
theorem lives_loop1 {l : List THullPlate} (hl : l.length ≤ 1000) (least : Int) (y : TBounds × Int × Int) : loopC (L_thalweglaw02_HullLives_1 l least y l).step 0 = some (.inl ()) := by
  rw [show (0 : Int) = ((0 : Nat) : Int) from rfl, loop_run (fun k : Nat => (k : Int)) l.length (e := .inl ())]
  · intro k hk
    simp only [L_thalweglaw02_HullLives_1, Int.ofNat_lt, hk, decide_true, cond_true, idx?_nat hk, Option.bind_some, plate_self, Bool.not_true, cond_false]
    rw [wr_nat (by omega)]
  · simp [L_thalweglaw02_HullLives_1]
theorem lives_loop2 {l : List THullPlate} (hl : l.length ≤ 1000) (least : Int) (y : TBounds × Int × Int) : loopC (L_thalweglaw02_HullLives_2 l least y l).step 0 = some (.inl ()) := by
  rw [show (0 : Int) = ((0 : Nat) : Int) from rfl, loop_run (fun k : Nat => (k : Int)) l.length (e := .inl ())]
  · intro k hk
    simp only [L_thalweglaw02_HullLives_2, Int.ofNat_lt, hk, decide_true, cond_true, idx?_nat hk, Option.bind_some, plate_self, Bool.not_true, cond_false]
    rw [wr_nat (by omega)]
  · simp [L_thalweglaw02_HullLives_2]
theorem plate_bif (b : THullPlate) {x y : Option ((Int × Int) ⊕ Int ⊕ Bool)} : (bif decide (b.Thick.Low < 0) then x else bif decide (b.Thick.Low > b.Thick.High) then x else bif decide (b.Thick.High > 100000) then x else
    bif decide (b.Wear.Low < 0) then x else bif decide (b.Wear.Low > b.Wear.High) then x else bif decide (b.Wear.High > 1000) then x else y) = if plateOk b then y else x := by
  have key : plateOk b = (!decide (b.Thick.Low < 0) && (!decide (b.Thick.Low > b.Thick.High) && (!decide (b.Thick.High > 100000) && (!decide (b.Wear.Low < 0) && (!decide (b.Wear.Low > b.Wear.High) && !decide (b.Wear.High > 1000)))))) := by
    rw [Bool.eq_iff_iff]
    simp only [plateOk, vB, inB, Bool.and_eq_true, decide_eq_true_eq, Bool.not_eq_true', decide_eq_false_iff_not]
    omega
  rw [key]
  cases decide (b.Thick.Low < 0) <;> cases decide (b.Thick.Low > b.Thick.High) <;> cases decide (b.Thick.High > 100000) <;> cases decide (b.Wear.Low < 0) <;> cases decide (b.Wear.Low > b.Wear.High) <;> cases decide (b.Wear.High > 1000) <;> rfl
theorem lives_loop3 {l : List THullPlate} (hl : l.length ≤ 1000) (least : Int) (y : TBounds × Int × Int) : loopC (L_thalweglaw02_HullLives_3 l least y l).step (0, 0) = some (.inl (if l.all plateOk then 0 else 2)) := by
  rw [show ((0 : Int), (0 : Int)) = (fun k : Nat => ((if (l.take k).all plateOk then (0 : Int) else 2), (k : Int))) 0 by simp, loop_run (fun k : Nat => ((if (l.take k).all plateOk then (0 : Int) else 2), (k : Int))) l.length (e := .inl (if l.all plateOk then 0 else 2))]
  · intro k hk
    simp only [L_thalweglaw02_HullLives_3, Int.ofNat_lt, hk, decide_true, cond_true, idx?_nat hk, Option.bind_some, plate_self, Bool.not_true, cond_false]
    rw [wr_nat (by omega), plate_bif, List.take_succ_eq_append_getElem hk, List.all_append]
    simp only [List.all_cons, List.all_nil, Bool.and_true]
    cases (l.take k).all plateOk <;> cases plateOk l[k] <;> rfl
  · simp [L_thalweglaw02_HullLives_3]
theorem knownH_eq : F_thalweglaw02_known () = some true := rfl

theorem lives_true {l : List THullPlate} {least : Int} : F_thalweglaw02_HullLives (l, least) = some true := by
  simp only [F_thalweglaw02_HullLives, knownH_eq, Option.bind_some]
  by_cases c0 : l.length > 60
  · rw [show decide ((l.length : Int) > 60) = true by simp; omega]; rfl
  · rw [show decide ((l.length : Int) > 60) = false by simp; omega]
    simp only [cond_false]
    rw [app_nil (m := l) (n := 32) (by omega) (by decide)]
    simp only [Option.bind_some, Life_eq]
    rw [lives_loop1 (by omega), lives_loop2 (by omega), lives_loop3 (by omega)]
    by_cases c1 : l.length = 0
    · have he : lifeErr l least = 4 := by simp [lifeErr, c1]
      simp [c1, he]
    · rw [show (((l.length : Nat) : Int) == 0) = false by rw [beq_eq_false_iff_ne]; omega]
      simp only [cond_false]
      by_cases c2 : l.length > 50
      · have he : lifeErr l least = 5 := by simp only [lifeErr, c1, if_false, c2, if_true]
        rw [show decide ((l.length : Int) > 50) = true by simp; omega]
        simp [he]
      · rw [show decide ((l.length : Int) > 50) = false by simp; omega]
        simp only [cond_false, Option.bind_some]
        cases c3 : l.all plateOk with
        | false =>
          have he : lifeErr l least = 2 := by simp only [lifeErr, c1, if_false, c2, c3, Bool.not_false, if_true]
          simp [he]
        | true =>
          simp only [if_true, show ((0 : Int) == 0) = true from rfl, cond_true]
          by_cases c4 : least < 0
          · have he : lifeErr l least = 3 := by
              have : inB least 0 100000 = false := by rw [Bool.eq_false_iff]; intro h; rw [inB_iff] at h; omega
              simp only [lifeErr, c1, if_false, c2, c3, this, Bool.not_true, Bool.not_false, if_true, Bool.false_eq_true]
            simp [c4, he]
          · simp only [c4, decide_false, cond_false]
            by_cases c5 : least > 100000
            · have he : lifeErr l least = 3 := by
                have : inB least 0 100000 = false := by rw [Bool.eq_false_iff]; intro h; rw [inB_iff] at h; omega
                simp only [lifeErr, c1, if_false, c2, c3, this, Bool.not_true, Bool.not_false, if_true, Bool.false_eq_true]
              simp [c5, he]
            · have he : lifeErr l least = 0 := by
                have : inB least 0 100000 = true := by rw [inB_iff]; omega
                simp only [lifeErr, c1, if_false, c2, c3, this, Bool.not_true, Bool.false_eq_true]
              simp only [c5, decide_false, cond_false, rLife_eq he, Option.bind_some, he, if_true]
              simp
end Go.Ev
/- Chapter 2: plates, whatever is true; the law HullWears is true. -/
set_option linter.unusedVariables false
set_option linter.unusedSimpArgs false
namespace Go.Ev
set_option maxHeartbeats 1000000

def plateOf (x : Tanon35) : THullPlate := ⟨⟨x.a0, x.a0 + x.a1⟩, ⟨Int.tmod x.a2 20, Int.tmod x.a2 20 + Int.tmod x.a3 20⟩⟩
def byteOk (n : Int) : Prop := 0 ≤ n ∧ n ≤ 255
def fourOk (x : Tanon35) : Prop := byteOk x.a0 ∧ byteOk x.a1 ∧ byteOk x.a2 ∧ byteOk x.a3
def smallOk (x : THullPlate) : Prop := 0 ≤ x.Thick.Low ∧ x.Thick.Low ≤ x.Thick.High ∧ x.Thick.High ≤ 510 ∧ 0 ≤ x.Wear.Low ∧ x.Wear.Low ≤ x.Wear.High ∧ x.Wear.High ≤ 38
theorem tmod20 {n : Int} (h : 0 ≤ n) : 0 ≤ Int.tmod n 20 ∧ Int.tmod n 20 ≤ 19 := by
  have h1 := Int.tmod_nonneg 20 h
  have h2 := Int.tmod_lt_of_pos n (show (0 : Int) < 20 by omega)
  omega
theorem plateOf_small {x : Tanon35} (h : fourOk x) : smallOk (plateOf x) := by
  obtain ⟨⟨a1, a2⟩, ⟨b1, b2⟩, ⟨c1, c2⟩, ⟨d1, d2⟩⟩ := h
  have e1 := tmod20 c1
  have e2 := tmod20 d1
  simp only [smallOk, plateOf]
  omega
theorem small_plate {x : THullPlate} (h : smallOk x) : plateOk x = true := by
  obtain ⟨h1, h2, h3, h4, h5, h6⟩ := h
  simp only [plateOk, vB, inB, Bool.and_eq_true, decide_eq_true_eq]
  omega

theorem wears_build {a : List Tanon35} (ha : ∀ x ∈ a, fourOk x) (hl : a.length ≤ 140737488355328) (a1 : Int) (a2 : List Int) : loopC (L_thalweglaw02_HullWears_1 a a1 a2).step (0, ([] : List THullPlate)) = some ((a.take 20).map plateOf) := by
  rw [show ((0 : Int), ([] : List THullPlate)) = (fun k : Nat => ((k : Int), (a.take k).map plateOf)) 0 from rfl, loop_run (fun k : Nat => ((k : Int), (a.take k).map plateOf)) (min a.length 20) (e := (a.take 20).map plateOf)]
  · intro k hk
    have hk1 : k < a.length := by omega
    obtain ⟨⟨a1, a2⟩, ⟨b1, b2⟩, ⟨c1, c2⟩, ⟨d1, d2⟩⟩ := ha _ (List.getElem_mem hk1)
    have e1 := tmod20 c1
    have e2 := tmod20 d1
    have w : ∀ {n : Int}, 0 ≤ n → n ≤ 600 → wr n = n := fun h h' => wr_in (by omega) (by omega)
    simp only [L_thalweglaw02_HullWears_1, Int.ofNat_lt, hk1, decide_true, cond_true, idx?_nat hk1, Option.bind_some, show decide ((k : Int) < 20) = true by simp; omega]
    rw [w a1 (by omega), w b1 (by omega), w c1 (by omega), w d1 (by omega), w (n := a[k].a0 + a[k].a1) (by omega) (by omega), w (n := Int.tmod a[k].a2 20 + Int.tmod a[k].a3 20) (by omega) (by omega)]
    rw [app_of (by simp; omega) (by decide), wr_nat (by omega)]
    simp only [Option.bind_some, List.take_succ_eq_append_getElem hk1, List.map_append, List.map_cons, List.map_nil, plateOf]
  · simp only [L_thalweglaw02_HullWears_1]
    by_cases c : a.length ≤ 20
    · rw [Nat.min_eq_left c, show decide (((a.length : Nat) : Int) < (a.length : Int)) = false by simp]
      simp only [cond_false]
      rw [List.take_of_length_le c, List.take_of_length_le (Nat.le_refl _)]
    · rw [Nat.min_eq_right (by omega), show decide (((20 : Nat) : Int) < (a.length : Int)) = true by simp; omega]
      rfl

/-- The least of numbers, one for each plate. -/
def mnF (f : Nat → THullPlate → Int) : List THullPlate → Nat → Int → Int
  | [], _, s => s
  | x :: m, k, s => mnF f m (k + 1) (minmax false s (f k x))
theorem mm (a b : Int) : minmax false a b = if b < a then b else a := rfl
theorem mnF_init (f : Nat → THullPlate → Int) : ∀ (m : List THullPlate) (k : Nat) (s : Int), mnF f m k s ≤ s
  | [], _, s => Int.le_refl s
  | x :: m, k, s => by
    have h1 := mnF_init f m (k + 1) (minmax false s (f k x))
    have h2 : minmax false s (f k x) ≤ s := by rw [mm]; split <;> omega
    rw [mnF]
    exact Int.le_trans h1 h2
theorem mnF_mono {f g : Nat → THullPlate → Int} : ∀ (m : List THullPlate) (k : Nat) (s t : Int), (∀ j, ∀ x ∈ m, f j x ≤ g j x) → s ≤ t → mnF f m k s ≤ mnF g m k t
  | [], _, _, _, _, h => h
  | x :: m, k, s, t, h, hst => by
    rw [mnF, mnF]
    refine mnF_mono m (k + 1) _ _ (fun j y hy => h j y (by simp [hy])) ?_
    have := h k x (by simp)
    rw [mm, mm]
    split <;> split <;> omega
theorem mnF_append (f : Nat → THullPlate → Int) : ∀ (m m' : List THullPlate) (k : Nat) (s : Int), mnF f (m ++ m') k s = mnF f m' (k + m.length) (mnF f m k s)
  | [], m', k, s => rfl
  | x :: m, m', k, s => by
    rw [List.cons_append, mnF, mnF, mnF_append f m m' (k + 1) _, List.length_cons, show k + 1 + m.length = k + (m.length + 1) by omega]

def yA (least : Int) (x : THullPlate) : Int := yr x.Thick.Low x.Wear.High least
def yC (least : Int) (x : THullPlate) : Int := yr x.Thick.High x.Wear.Low least
theorem life_bounds (least : Int) : ∀ (m : List THullPlate) (k : Nat) (low high plate : Int), (lifeGo least m k (low, high, plate)).1 = mnF (fun _ => yA least) m k low ∧ (lifeGo least m k (low, high, plate)).2.1 = mnF (fun _ => yC least) m k high
  | [], _, _, _, _ => ⟨rfl, rfl⟩
  | x :: m, k, low, high, plate => by
    rw [lifeGo, mnF, mnF]
    by_cases c : yr x.Thick.Low x.Wear.High least < low
    · rw [if_pos c]
      have := life_bounds least m (k + 1) (yr x.Thick.Low x.Wear.High least) (minmax false high (yr x.Thick.High x.Wear.Low least)) (k : Int)
      rw [this.1, this.2, mm low, if_pos (show yA least x < low from c)]
      exact ⟨rfl, rfl⟩
    · rw [if_neg c]
      have := life_bounds least m (k + 1) low (minmax false high (yr x.Thick.High x.Wear.Low least)) plate
      rw [this.1, this.2, mm low, if_neg (show ¬ yA least x < low from c)]
      exact ⟨rfl, rfl⟩
theorem life_plate (least : Int) : ∀ (m : List THullPlate) (k : Nat) (low high plate : Int),
    ((lifeGo least m k (low, high, plate)).2.2 = plate ∧ (lifeGo least m k (low, high, plate)).1 = low ∧ ∀ x ∈ m, low ≤ yA least x) ∨
    ∃ (j : Nat) (hj : j < m.length), (lifeGo least m k (low, high, plate)).2.2 = ((k + j : Nat) : Int) ∧ yA least m[j] = (lifeGo least m k (low, high, plate)).1 ∧ (lifeGo least m k (low, high, plate)).1 < low ∧ ∀ (i : Nat) (hi : i < m.length), i < j → (lifeGo least m k (low, high, plate)).1 < yA least m[i]
  | [], _, _, _, _ => .inl ⟨rfl, rfl, by simp⟩
  | x :: m, k, low, high, plate => by
    rw [lifeGo]
    by_cases c : yr x.Thick.Low x.Wear.High least < low
    · rw [if_pos c]
      rcases life_plate least m (k + 1) (yr x.Thick.Low x.Wear.High least) (minmax false high (yr x.Thick.High x.Wear.Low least)) (k : Int) with ⟨h1, h2, h3⟩ | ⟨j, hj, h1, h2, h3, h4⟩
      · refine .inr ⟨0, by simp, by rw [h1]; simp, by rw [h2]; rfl, by rw [h2]; exact c, fun i _ hi => by omega⟩
      · refine .inr ⟨j + 1, by simp; omega, by rw [h1]; congr 1; omega, by rw [List.getElem_cons_succ]; exact h2, by omega, fun i hi hij => ?_⟩
        cases i with
        | zero => rw [List.getElem_cons_zero]; exact h3
        | succ i => rw [List.getElem_cons_succ]; exact h4 i (by simpa using hi) (by omega)
    · rw [if_neg c]
      rcases life_plate least m (k + 1) low (minmax false high (yr x.Thick.High x.Wear.Low least)) plate with ⟨h1, h2, h3⟩ | ⟨j, hj, h1, h2, h3, h4⟩
      · refine .inl ⟨h1, h2, fun y hy => ?_⟩
        rcases List.mem_cons.1 hy with rfl | hy
        · show low ≤ yr _ _ _; omega
        · exact h3 y hy
      · refine .inr ⟨j + 1, by simp; omega, by rw [h1]; congr 1; omega, by rw [List.getElem_cons_succ]; exact h2, h3, fun i hi hij => ?_⟩
        cases i with
        | zero => rw [List.getElem_cons_zero]; show _ < yr _ _ _; omega
        | succ i => rw [List.getElem_cons_succ]; exact h4 i (by simpa using hi) (by omega)

/-- The years, counted. -/
theorem count_loop {step : Int → Option (Int ⊕ Int)} {t w least : Int} (h : okN t w least) (hs : ∀ k : Nat, k ≤ 1001 → step ((k : Int) - 1) = some (if (k : Int) ≤ 1000 ∧ t - (k : Int) * w ≥ least then .inl ((k + 1 : Nat) - 1 : Int) else .inr ((k : Int) - 1))) : loopC step (-1) = some (yr t w least) := by
  have hb := yr_bound h
  obtain ⟨n, hn⟩ := Int.eq_ofNat_of_zero_le (show 0 ≤ yr t w least + 1 by omega)
  have e : yr t w least = (n : Int) - 1 := by omega
  rw [show (-1 : Int) = (fun k : Nat => (k : Int) - 1) 0 from rfl, e, loop_run (fun k : Nat => (k : Int) - 1) n (e := (n : Int) - 1)]
  · intro k hk
    have := (yr_le h (k := k) (by omega)).1 (by omega)
    rw [hs k (by omega), if_pos ⟨by omega, this⟩]
  · rw [hs n (by omega)]
    by_cases c : n ≤ 1000
    · have hno : ¬ (t - (n : Int) * w ≥ least) := fun hc => by have := (yr_le h (k := n) c).2 hc; omega
      rw [if_neg (fun hc => hno hc.2)]
    · rw [if_neg (fun hc => by omega)]
theorem mul_small2 {k : Nat} {w : Int} (hk : k ≤ 1001) (h3 : 0 ≤ w) (h4 : w ≤ 1000) : 0 ≤ (k : Int) * w ∧ (k : Int) * w ≤ 1001000 := by
  refine ⟨Int.mul_nonneg (by omega) h3, ?_⟩
  have h := Int.mul_le_mul (show (k : Int) ≤ 1001 by omega) h4 h3 (by omega : (0 : Int) ≤ 1001)
  omega
theorem count_step {t w least : Int} (h : okN t w least) (k : Nat) (hk : k ≤ 1001) :
    (bif decide ((k : Int) - 1 < 1000) then (bif decide (wr (t - wr (wr ((k : Int) - 1 + 1) * w)) ≥ least) then some (.inl (wr ((k : Int) - 1 + 1))) else some (.inr ((k : Int) - 1))) else some (.inr ((k : Int) - 1)) : Option (Int ⊕ Int)) =
      some (if (k : Int) ≤ 1000 ∧ t - (k : Int) * w ≥ least then .inl ((k + 1 : Nat) - 1 : Int) else .inr ((k : Int) - 1)) := by
  obtain ⟨h1, h2, h3, h4, h5, h6⟩ := h
  have hm := mul_small2 hk h3 h4
  rw [show (k : Int) - 1 + 1 = (k : Int) by omega, wr_in (n := (k : Int)) (by omega) (by omega), wr_in (n := (k : Int) * w) (by omega) (by omega), wr_in (n := t - (k : Int) * w) (by omega) (by omega)]
  by_cases c1 : (k : Int) ≤ 1000
  · rw [show decide ((k : Int) - 1 < 1000) = true from decide_eq_true (by omega)]
    by_cases c2 : t - (k : Int) * w ≥ least
    · rw [if_pos ⟨c1, c2⟩, show decide (t - (k : Int) * w ≥ least) = true from decide_eq_true c2]
      simp only [cond_true, Option.some.injEq, Sum.inl.injEq]
      omega
    · rw [if_neg (fun hc => c2 hc.2), show decide (t - (k : Int) * w ≥ least) = false from decide_eq_false c2]
      rfl
  · rw [if_neg (fun hc => c1 hc.1), show decide ((k : Int) - 1 < 1000) = false from decide_eq_false (by omega)]
    rfl

theorem count5 {x : THullPlate} {least : Int} (hx : smallOk x) (h0 : 0 ≤ least) (h1 : least ≤ 255) (a2 : List Int) (y : TBounds × Int × Int) (s11 s80 s81 : Int) (l : List THullPlate) : loopC (L_thalweglaw02_HullWears_5 least a2 y s11 s80 s81 x x l).step (-1) = some (yA least x) := by
  obtain ⟨b1, b2, b3, b4, b5, b6⟩ := hx
  have hn : okN x.Thick.Low x.Wear.High least := ⟨by omega, by omega, by omega, by omega, h0, by omega⟩
  refine count_loop hn fun k hk => ?_
  have := count_step hn k hk
  simp only [L_thalweglaw02_HullWears_5]
  rw [wr_in (n := least) (by omega) (by omega)]
  exact this
theorem count3 {x : THullPlate} {least : Int} (hx : smallOk x) (h0 : 0 ≤ least) (h1 : least ≤ 255) (a2 : List Int) (y : TBounds × Int × Int) (s11 s80 s81 : Int) (l : List THullPlate) : loopC (L_thalweglaw02_HullWears_3 least a2 y s11 s80 s81 x x l).step (-1) = some (yC least x) := by
  obtain ⟨b1, b2, b3, b4, b5, b6⟩ := hx
  have hn : okN x.Thick.High x.Wear.Low least := ⟨by omega, by omega, by omega, by omega, h0, by omega⟩
  refine count_loop hn fun k hk => ?_
  have := count_step hn k hk
  simp only [L_thalweglaw02_HullWears_3]
  rw [wr_in (n := least) (by omega) (by omega)]
  exact this
/-- The years of a plate whose thickness and wear are picked. -/
def yP (least : Int) (p q : Int) (x : THullPlate) : Int := yr (x.Thick.Low + Int.tmod p (x.Thick.High - x.Thick.Low + 1)) (x.Wear.High - Int.tmod q (x.Wear.High - x.Wear.Low + 1)) least
theorem tmodB {n d : Int} (h : 0 ≤ n) (hd : 0 < d) : 0 ≤ Int.tmod n d ∧ Int.tmod n d < d := ⟨Int.tmod_nonneg d h, Int.tmod_lt_of_pos n hd⟩
theorem count4 {x : THullPlate} {least p q : Int} (hx : smallOk x) (h0 : 0 ≤ least) (h1 : least ≤ 255) (hp : byteOk p) (hq : byteOk q) (a2 : List Int) (y : TBounds × Int × Int) (s11 s80 s81 : Int) (l : List THullPlate) : loopC (L_thalweglaw02_HullWears_4 least a2 y s11 s80 s81 x p x x q x l).step (-1) = some (yP least p q x) := by
  obtain ⟨b1, b2, b3, b4, b5, b6⟩ := hx
  obtain ⟨p1, p2⟩ := hp
  obtain ⟨q1, q2⟩ := hq
  have t1 := tmodB p1 (show 0 < x.Thick.High - x.Thick.Low + 1 by omega)
  have t2 := tmodB q1 (show 0 < x.Wear.High - x.Wear.Low + 1 by omega)
  have hn : okN (x.Thick.Low + Int.tmod p (x.Thick.High - x.Thick.Low + 1)) (x.Wear.High - Int.tmod q (x.Wear.High - x.Wear.Low + 1)) least := ⟨by omega, by omega, by omega, by omega, h0, by omega⟩
  refine count_loop hn fun k hk => ?_
  have := count_step hn k hk
  have w : ∀ {n : Int}, 0 ≤ n → n ≤ 2000 → wr n = n := fun h h' => wr_in (by omega) (by omega)
  simp only [L_thalweglaw02_HullWears_4]
  rw [w h0 (by omega), w (n := x.Thick.High - x.Thick.Low) (by omega) (by omega), w (n := x.Thick.High - x.Thick.Low + 1) (by omega) (by omega), w (n := x.Wear.High - x.Wear.Low) (by omega) (by omega), w (n := x.Wear.High - x.Wear.Low + 1) (by omega) (by omega), w p1 (by omega), w q1 (by omega),
    w (n := x.Thick.Low + Int.tmod p (x.Thick.High - x.Thick.Low + 1)) (by omega) (by omega), w (n := x.Wear.High - Int.tmod q (x.Wear.High - x.Wear.Low + 1)) (by omega) (by omega)]
  exact this
/-- Thicker plates that wear less last longer. -/
theorem yr_mono {t w t' w' least : Int} (h : okN t w least) (h' : okN t' w' least) (ht : t ≤ t') (hw : w' ≤ w) : yr t w least ≤ yr t' w' least := by
  have b := yr_bound h
  have b' := yr_bound h'
  by_cases c : yr t w least < 0
  · omega
  · obtain ⟨n, hn⟩ := Int.eq_ofNat_of_zero_le (show 0 ≤ yr t w least by omega)
    rw [hn]
    refine (yr_le h' (k := n) (by omega)).2 ?_
    have h1 := (yr_le h (k := n) (by omega)).1 (by omega)
    have h2 := Int.mul_le_mul_of_nonneg_left (c := (n : Int)) hw (by omega)
    omega

theorem six_loop {l : List THullPlate} {least : Int} {a2 : List Int} {y : TBounds × Int × Int} {s11 : Int} (f : Nat → THullPlate → Int) (hl : l.length ≤ 1000)
    (hs : ∀ (k : Nat) (hk : k < l.length) (s : Int), (L_thalweglaw02_HullWears_6 least a2 y s11 l).step (s, (k : Int)) = some (.inl (minmax false s (f k l[k]), ((k + 1 : Nat) : Int)))) : ∀ (m : List THullPlate) (k : Nat) (s : Int), l.drop k = m → k ≤ l.length → loopC (L_thalweglaw02_HullWears_6 least a2 y s11 l).step (s, (k : Int)) = some (.inl (mnF f m k s))
  | [], k, s, h, hk => by
    have := drop_nil h
    rw [loopC_eq]
    simp [L_thalweglaw02_HullWears_6, mnF, show ¬ k < l.length by omega]
  | x :: m, k, s, h, hk => by
    obtain ⟨hl', hg, hd⟩ := drop_cons h
    rw [loopC_eq, hs k hl' s, hg]
    exact six_loop f hl hs m (k + 1) _ hd (by omega)

theorem wears_life {l : List THullPlate} {least : Int} (hs : ∀ x ∈ l, smallOk x) (h0 : 0 ≤ least) (h1 : least ≤ 255) (hl : l.length ≤ 20) : lifeErr l least = if l.length = 0 then 4 else 0 := by
  unfold lifeErr
  by_cases c : l.length = 0
  · rw [if_pos c, if_pos c]
  · rw [if_neg c, if_neg c, if_neg (by omega), show l.all plateOk = true from List.all_eq_true.2 fun x hx => small_plate (hs x hx), show inB least 0 100000 = true by rw [inB_iff]; omega]
    rfl

theorem wears_true {a : List Tanon35} {least : Int} {a2 : List Int} (ha : ∀ x ∈ a, fourOk x) (hl : a.length ≤ 140737488355328) (hb : byteOk least) (h2 : ∀ x ∈ a2, byteOk x) (hl2 : a2.length ≤ 140737488355328) : F_thalweglaw02_HullWears (a, least, a2) = some true := by
  obtain ⟨h0, h1⟩ := hb
  obtain ⟨l, hle⟩ : ∃ l, l = (a.take 20).map plateOf := ⟨_, rfl⟩
  have hs : ∀ x ∈ l, smallOk x := by
    intro x hx
    rw [hle] at hx
    obtain ⟨z, hz, rfl⟩ := List.mem_map.1 hx
    exact plateOf_small (ha z (List.mem_of_mem_take hz))
  have hll : l.length ≤ 20 := by rw [hle]; simp; omega
  simp only [F_thalweglaw02_HullWears, wears_build ha hl, Option.bind_some, ← hle]
  rw [app_nil (m := l) (n := 32) (by omega) (by decide), wr_in (n := least) (by omega) (by omega)]
  simp only [Option.bind_some, Life_eq, wears_life hs h0 h1 hll, knownH_eq]
  by_cases c : l.length = 0
  · simp [c]
  · rw [show (((l.length : Nat) : Int) == 0) = false by rw [beq_eq_false_iff_ne]; omega]
    simp only [c, if_false, if_true, cond_false, bne_self_eq_false]
    have hA : ∀ x ∈ l, okN x.Thick.Low x.Wear.High least ∧ okN x.Thick.High x.Wear.Low least := fun x hx => plate_nums (small_plate (hs x hx)) h0 (by omega)
    -- the first plate with the least years
    obtain ⟨e1, e2⟩ := life_bounds least l 0 1000 1000 0
    obtain ⟨p, hp, hp1, hp2, hp3⟩ : ∃ (p : Nat) (hp : p < l.length), (lifeOf l least).2.2 = (p : Int) ∧ yA least l[p] = (lifeOf l least).1 ∧ ∀ (i : Nat) (hi : i < l.length), i < p → (lifeOf l least).1 < yA least l[i] := by
      rcases life_plate least l 0 1000 1000 0 with ⟨g1, g2, g3⟩ | ⟨j, hj, g1, g2, g3, g4⟩
      · refine ⟨0, by omega, g1, ?_, fun i _ hi => by omega⟩
        have := g3 _ (List.getElem_mem (show 0 < l.length by omega))
        have := (yr_bound (hA _ (List.getElem_mem (show 0 < l.length by omega))).1).2
        show yA least l[0] = (lifeGo least l 0 (1000, 1000, 0)).1
        rw [g2]
        unfold yA at *
        omega
      · exact ⟨j, hj, by rw [← Nat.zero_add j]; exact g1, g2, g4⟩
    obtain ⟨lo, hlo⟩ : ∃ lo, lo = (lifeOf l least).1 := ⟨_, rfl⟩
    obtain ⟨hi, hhi⟩ : ∃ hi, hi = (lifeOf l least).2.1 := ⟨_, rfl⟩
    have hlo' : lo = mnF (fun _ => yA least) l 0 1000 := by rw [hlo]; exact e1
    have hhi' : hi = mnF (fun _ => yC least) l 0 1000 := by rw [hhi]; exact e2
    rw [← hlo] at hp2 hp3
    rw [← hlo, ← hhi, hp1]
    have hle2 : lo ≤ hi := by
      rw [hlo', hhi']
      refine mnF_mono l 0 1000 1000 (fun _ x hx => ?_) (Int.le_refl _)
      have := hs x hx
      exact yr_mono (hA x hx).1 (hA x hx).2 this.2.1 this.2.2.2.2.1
    rw [show decide (((p : Nat) : Int) < 0) = false from decide_eq_false (by omega), show decide (((p : Nat) : Int) ≥ (l.length : Int)) = false by simp; omega]
    simp only [cond_false]
    -- the three ways
    have six0 : loopC (L_thalweglaw02_HullWears_6 least a2 (⟨lo, hi⟩, (p : Int), 0) 0 l).step (1000, 0) = some (.inl lo) := by
      rw [show ((1000 : Int), (0 : Int)) = (1000, ((0 : Nat) : Int)) from rfl, six_loop (fun _ => yA least) (by omega) ?_ l 0 1000 rfl (by omega), ← hlo']
      intro k hk s
      have hx := hs _ (List.getElem_mem hk)
      simp only [L_thalweglaw02_HullWears_6, Int.ofNat_lt, hk, decide_true, cond_true, idx?_nat hk, Option.bind_some, show ((0 : Int) == 1) = false from rfl, show ((0 : Int) == 2) = false from rfl, show ((0 : Int) == 0) = true from rfl, cond_false, count5 hx h0 h1]
      rw [wr_nat (by omega)]
      by_cases c1 : k < p
      · have := hp3 k hk c1
        rw [show decide (k < p) = true from decide_eq_true c1, show decide (yA least l[k] ≤ lo) = false from decide_eq_false (by omega), show (((k : Nat) : Int) == (p : Int)) = false by rw [beq_eq_false_iff_ne]; omega]
        rfl
      · rw [show decide (k < p) = false from decide_eq_false c1]
        by_cases c2 : k = p
        · subst c2
          rw [hp2]
          simp
        · rw [show (((k : Nat) : Int) == (p : Int)) = false by rw [beq_eq_false_iff_ne]; omega]
          rfl
    have six1 : loopC (L_thalweglaw02_HullWears_6 least a2 (⟨lo, hi⟩, (p : Int), 0) 1 l).step (1000, 0) = some (.inl hi) := by
      rw [show ((1000 : Int), (0 : Int)) = (1000, ((0 : Nat) : Int)) from rfl, six_loop (fun _ => yC least) (by omega) ?_ l 0 1000 rfl (by omega), ← hhi']
      intro k hk s
      have hx := hs _ (List.getElem_mem hk)
      simp only [L_thalweglaw02_HullWears_6, Int.ofNat_lt, hk, decide_true, cond_true, idx?_nat hk, Option.bind_some, show ((1 : Int) == 1) = true from rfl, show ((1 : Int) == 2) = false from rfl, show ((1 : Int) == 0) = false from rfl, cond_false, count3 hx h0 h1]
      rw [wr_nat (by omega)]
    have six2 : ∃ v, loopC (L_thalweglaw02_HullWears_6 least a2 (⟨lo, hi⟩, (p : Int), 0) 2 l).step (1000, 0) = some (.inl v) ∧ lo ≤ v ∧ v ≤ hi := by
      by_cases cn : a2.length = 0
      · refine ⟨lo, ?_, Int.le_refl _, hle2⟩
        rw [show ((1000 : Int), (0 : Int)) = (1000, ((0 : Nat) : Int)) from rfl, six_loop (fun _ => yA least) (by omega) ?_ l 0 1000 rfl (by omega), ← hlo']
        intro k hk s
        have hx := hs _ (List.getElem_mem hk)
        simp only [L_thalweglaw02_HullWears_6, Int.ofNat_lt, hk, decide_true, cond_true, idx?_nat hk, Option.bind_some, show ((2 : Int) == 1) = false from rfl, show ((2 : Int) == 2) = true from rfl, show ((2 : Int) == 0) = false from rfl, cond_false, count5 hx h0 h1, show decide (((a2.length : Nat) : Int) > 0) = false by simp [cn]]
        rw [wr_nat (by omega)]
      · have hpick : ∀ k : Nat, ∃ hk : k % a2.length < a2.length, Int.tmod (k : Int) ((a2.length : Nat) : Int) = ((k % a2.length : Nat) : Int) ∧ byteOk a2[k % a2.length] := fun k =>
          have h : k % a2.length < a2.length := Nat.mod_lt _ (by omega)
          ⟨h, rfl, h2 _ (List.getElem_mem h)⟩
        let f : Nat → THullPlate → Int := fun k x => yP least (a2[k % a2.length]?.getD 0) (a2[(k + 1) % a2.length]?.getD 0) x
        have hf : ∀ j, ∀ x ∈ l, yA least x ≤ f j x ∧ f j x ≤ yC least x := by
          intro j x hx
          obtain ⟨q1, _, q3⟩ := hpick j
          obtain ⟨r1, _, r3⟩ := hpick (j + 1)
          have e3 : a2[j % a2.length]?.getD 0 = a2[j % a2.length] := by simp [q1]
          have e4 : a2[(j + 1) % a2.length]?.getD 0 = a2[(j + 1) % a2.length] := by simp [r1]
          simp only [f, e3, e4, yP]
          obtain ⟨b1, b2, b3, b4, b5, b6⟩ := hs x hx
          have t1 := tmodB q3.1 (show 0 < x.Thick.High - x.Thick.Low + 1 by omega)
          have t2 := tmodB r3.1 (show 0 < x.Wear.High - x.Wear.Low + 1 by omega)
          have hn : okN (x.Thick.Low + Int.tmod a2[j % a2.length] (x.Thick.High - x.Thick.Low + 1)) (x.Wear.High - Int.tmod a2[(j + 1) % a2.length] (x.Wear.High - x.Wear.Low + 1)) least := ⟨by omega, by omega, by omega, by omega, h0, by omega⟩
          exact ⟨yr_mono (hA x hx).1 hn (by omega) (by omega), yr_mono hn (hA x hx).2 (by omega) (by omega)⟩
        refine ⟨mnF f l 0 1000, ?_, ?_, ?_⟩
        · rw [show ((1000 : Int), (0 : Int)) = (1000, ((0 : Nat) : Int)) from rfl, six_loop f (by omega) ?_ l 0 1000 rfl (by omega)]
          intro k hk s
          have hx := hs _ (List.getElem_mem hk)
          obtain ⟨q1, q2, q3⟩ := hpick k
          obtain ⟨r1, r2, r3⟩ := hpick (k + 1)
          have e3 : a2[k % a2.length]?.getD 0 = a2[k % a2.length] := by simp [q1]
          have e4 : a2[(k + 1) % a2.length]?.getD 0 = a2[(k + 1) % a2.length] := by simp [r1]
          obtain ⟨b1, b2, b3, b4, b5, b6⟩ := hx
          have w : ∀ {n : Int}, 0 ≤ n → n ≤ 2000 → wr n = n := fun h h' => wr_in (by omega) (by omega)
          simp only [L_thalweglaw02_HullWears_6, Int.ofNat_lt, hk, decide_true, cond_true, idx?_nat hk, Option.bind_some, show ((2 : Int) == 1) = false from rfl, show ((2 : Int) == 2) = true from rfl, show ((2 : Int) == 0) = false from rfl, cond_false, show decide (((a2.length : Nat) : Int) > 0) = true by simp; omega]
          rw [wr_nat (show k < 9223372036854775807 by omega), nz_of (show ((a2.length : Nat) : Int) ≠ 0 by omega), q2, r2, idx?_nat q1, idx?_nat r1, w (n := l[k].Thick.High - l[k].Thick.Low) (by omega) (by omega), w (n := l[k].Thick.High - l[k].Thick.Low + 1) (by omega) (by omega),
            w (n := l[k].Wear.High - l[k].Wear.Low) (by omega) (by omega), w (n := l[k].Wear.High - l[k].Wear.Low + 1) (by omega) (by omega), nz_of (show l[k].Thick.High - l[k].Thick.Low + 1 ≠ 0 by omega), nz_of (show l[k].Wear.High - l[k].Wear.Low + 1 ≠ 0 by omega)]
          simp only [Option.bind_some, count4 ⟨b1, b2, b3, b4, b5, b6⟩ h0 h1 q3 r3, f, e3, e4]
        · rw [hlo']; exact mnF_mono l 0 1000 1000 (fun j x hx => (hf j x hx).1) (Int.le_refl _)
        · rw [hhi']; exact mnF_mono l 0 1000 1000 (fun j x hx => (hf j x hx).2) (Int.le_refl _)
    obtain ⟨v, six2, hv1, hv2⟩ := six2
    have seven : loopC (L_thalweglaw02_HullWears_7 least a2 (⟨lo, hi⟩, (p : Int), 0) l).step 0 = some (.inl ()) := by
      refine loop_run (E := Unit ⊕ Bool) (fun k : Nat => (k : Int)) 3 (e := .inl ()) ?_ ?_
      · intro k hk
        match k, hk with
        | 0, _ =>
          simp only [L_thalweglaw02_HullWears_7, show (((0 : Nat) : Int)) = 0 from rfl, show decide ((0 : Int) < 3) = true from rfl, cond_true, six0, Option.bind_some, show decide (lo < lo) = false by simp, show decide (lo > hi) = false by simp; omega, cond_false, show ((0 : Int) == 0) = true from rfl, show ((0 : Int) == 1) = false from rfl, bne_self_eq_false]
          rfl
        | 1, _ =>
          simp only [L_thalweglaw02_HullWears_7, show (((1 : Nat) : Int)) = 1 from rfl, show decide ((1 : Int) < 3) = true from rfl, cond_true, six1, Option.bind_some, show decide (hi < lo) = false by simp; omega, show decide (hi > hi) = false by simp, cond_false, show ((1 : Int) == 0) = false from rfl, show ((1 : Int) == 1) = true from rfl, bne_self_eq_false]
          rfl
        | 2, _ =>
          simp only [L_thalweglaw02_HullWears_7, show (((2 : Nat) : Int)) = 2 from rfl, show decide ((2 : Int) < 3) = true from rfl, cond_true, six2, Option.bind_some, show decide (v < lo) = false by simp; omega, show decide (v > hi) = false by simp; omega, cond_false, show ((2 : Int) == 0) = false from rfl, show ((2 : Int) == 1) = false from rfl]
          rfl
      · rfl
    rw [seven]
    simp only [Option.bind_some]
    -- without the last plate
    have hcut : slc? l 0 (wr ((l.length : Int) - 1)) = some (l.take (l.length - 1)) := by
      rw [wr_in (by omega) (by omega), show (0 : Int) = ((0 : Nat) : Int) from rfl, show ((l.length : Nat) : Int) - 1 = ((l.length - 1 : Nat) : Int) by omega]
      unfold slc?
      rw [if_pos (by omega)]
      simp
    rw [hcut]
    simp only [Option.bind_some]
    rw [app_nil (m := l.take (l.length - 1)) (n := 32) (by simp; omega) (by decide)]
    have hs' : ∀ x ∈ l.take (l.length - 1), smallOk x := fun x hx => hs x (List.mem_of_mem_take hx)
    simp only [Option.bind_some, Life_eq, wears_life hs' h0 h1 (by simp; omega)]
    by_cases c1 : l.length = 1
    · have : (l.take (l.length - 1)).length = 0 := by simp [c1]
      simp [c1, this]
    · have hne : ¬ (l.take (l.length - 1)).length = 0 := by simp; omega
      rw [show (((l.length : Nat) : Int) == 1) = false by rw [beq_eq_false_iff_ne]; omega]
      simp only [hne, if_false, if_true, cond_false, show ((0 : Int) == 0) = true from rfl, cond_true]
      obtain ⟨g1, g2⟩ := life_bounds least (l.take (l.length - 1)) 0 1000 1000 0
      have hsplit : l = l.take (l.length - 1) ++ l.drop (l.length - 1) := (List.take_append_drop _ _).symm
      have m1 : lo ≤ (lifeOf (l.take (l.length - 1)) least).1 := by
        rw [hlo', show (lifeOf (l.take (l.length - 1)) least).1 = _ from g1]
        conv => lhs; rw [hsplit, mnF_append]
        exact mnF_init _ _ _ _
      have m2 : hi ≤ (lifeOf (l.take (l.length - 1)) least).2.1 := by
        rw [hhi', show (lifeOf (l.take (l.length - 1)) least).2.1 = _ from g2]
        conv => lhs; rw [hsplit, mnF_append]
        exact mnF_init _ _ _ _
      rw [show decide ((lifeOf (l.take (l.length - 1)) least).1 ≥ lo) = true from decide_eq_true m1, show decide ((lifeOf (l.take (l.length - 1)) least).2.1 ≥ hi) = true from decide_eq_true m2]
      rfl
end Go.Ev
/- The law HullWears, by what is known of its arguments. -/
set_option linter.unusedVariables false
namespace Go.Ev
theorem byte_of {n : Int} (h : kIu8 n) : byteOk n := h
theorem wears_law {l : List Tanon35} {a : Int} {p : List Int} (h1 : kLTanon35 l) (h2 : kIu8 a) (h3 : kLIu8 p) : F_thalweglaw02_HullWears (l, a, p) = some true :=
  wears_true (fun x hx => h1.2 x hx) h1.1 h2 (fun x hx => h3.2 x hx) h3.1
end Go.Ev
