/- A part of the proof of TowEnds. -/
import Derived.Test.YtoffbeemeecjjaaW5
/- Mathematics of earlier texts, as far as this text's functions go. -/
set_option linter.unusedVariables false
set_option linter.unusedSimpArgs false
namespace Go.Ev
structure Tthalweglaw03_Truth where
  Start : Int
  Speeds : List Int
  Wait : List Int
set_option maxHeartbeats 2000000
theorem every_int {l : List Int} {p : Int → Option Bool} {q : Int → Bool} {g : FuncId} {caps : List V} (hp : ∀ x ∈ l, p x = some (q x)) (hl : l.length ≤ 4611686018427387904) : F_numbers_Every_int (l, p, g, caps) = some (l.all q) := by
  unfold F_numbers_Every_int
  simp only
  rw [show (0 : Int) = ((0 : Nat) : Int) from rfl, loop_list l (fun k => (k : Int)) q (e := .inl ()) (f := .inr false)]
  · cases l.all q <;> rfl
  · intro k hk
    simp only [L_numbers_Every_int_1, Int.ofNat_lt, hk, decide_true, cond_true, idx?_nat hk, Option.bind_some, hp _ (List.getElem_mem hk), wr_nat (show k < 9223372036854775807 by omega)]
    cases q l[k] <;> rfl
  · simp [L_numbers_Every_int_1]
theorem bif_and (a b : Bool) : (bif a then some b else some false) = some (a && b) := by cases a <;> rfl
theorem bif_not (a b : Bool) : (bif (!a) then some false else some b) = some (a && b) := by cases a <;> rfl

theorem within1_eq (n a b : Int) : F_numbers_Within_1 (n, a, b) = some (inB n a b) := by
  simp only [F_numbers_Within_1, bif_and, inB]
theorem within_eq (a b : Int) (l : List Int) (hl : l.length ≤ 4611686018427387904) : F_numbers_Within (a, b, l) = some (l.all fun n => inB n a b) := by
  simp only [F_numbers_Within]
  rw [every_int (q := fun n => inB n a b) (fun x _ => within1_eq x a b) hl]
  rfl
theorem within1 (a b n : Int) : F_numbers_Within (a, b, [n]) = some (inB n a b) := by rw [within_eq _ _ _ (by simp)]; simp
theorem within2 (a b n m : Int) : F_numbers_Within (a, b, [n, m]) = some (inB n a b && inB m a b) := by rw [within_eq _ _ _ (by simp)]; simp
def vB (b : TBounds) (x y : Int) : Bool := decide (b.Low ≤ b.High) && (inB b.Low x y && inB b.High x y)
theorem valid_eq (b : TBounds) (x y : Int) : F_numbers_Valid (b, x, y) = some (vB b x y) := by
  simp only [F_numbers_Valid, within2, Option.bind_some, bif_and, vB]
theorem drop_cons {α : Type} {l m : List α} {k : Nat} {x : α} (h : l.drop k = x :: m) : ∃ hk : k < l.length, l[k] = x ∧ l.drop (k + 1) = m := by
  have hk : k < l.length := by
    rcases Nat.lt_or_ge k l.length with e | e
    · exact e
    · rw [List.drop_of_length_le e] at h; cases h
  rw [List.drop_eq_getElem_cons hk] at h
  cases h
  exact ⟨hk, rfl, rfl⟩
theorem drop_nil {α : Type} {l : List α} {k : Nat} (h : l.drop k = []) : l.length ≤ k := by
  have := congrArg List.length h
  simpa using Nat.le_of_sub_eq_zero (by simpa using this)

theorem tdiv_tmod {a b : Int} (hb : 0 < b) : b * a.tdiv b + a.tmod b = a ∧ -b < a.tmod b ∧ a.tmod b < b ∧ (0 ≤ a → 0 ≤ a.tmod b) ∧ (a ≤ 0 → a.tmod b ≤ 0) := by
  refine ⟨Int.mul_tdiv_add_tmod a b, ?_, ?_, ?_, ?_⟩
  · rcases Int.le_total 0 a with h | h
    · have := Int.tmod_nonneg b h; omega
    · have h1 := Int.tmod_nonneg b (a := -a) (by omega)
      have h2 := Int.tmod_lt_of_pos (-a) hb
      rw [Int.neg_tmod] at h1 h2; omega
  · exact Int.tmod_lt_of_pos a hb
  · exact fun h => Int.tmod_nonneg b h
  · intro h
    have h1 := Int.tmod_nonneg b (a := -a) (by omega)
    rw [Int.neg_tmod] at h1; omega
theorem tdiv_le {a b : Int} (hb : 0 < b) : -a.natAbs ≤ a.tdiv b ∧ a.tdiv b ≤ a.natAbs := by
  have h : (a.tdiv b).natAbs ≤ a.natAbs := by
    rw [Int.natAbs_tdiv]; exact Nat.div_le_self _ _
  omega
theorem div_of {a b q r : Int} (hb : 0 < b) (h : r + b * q = a) (h0 : 0 ≤ r) (h1 : r < b) : a / b = q := ((Int.ediv_emod_unique hb).2 ⟨h, h0, h1⟩).1

theorem Down_eq {a b : Int} (hb : 0 < b) (ha : a.natAbs ≤ 4611686018427387904) : F_numbers_Down (a, b) = some (a / b) := by
  obtain ⟨h1, h2, h3, h4, h5⟩ := tdiv_tmod (a := a) hb
  have h6 := tdiv_le (a := a) hb
  simp only [F_numbers_Down, nz_of (show b ≠ 0 by omega), Option.bind_some]
  rw [wr_in (n := a.tdiv b) (by omega) (by omega)]
  by_cases c : a.tmod b < 0
  · rw [wr_in (n := a.tdiv b - 1) (by omega) (by omega), div_of (q := a.tdiv b - 1) (r := a.tmod b + b) hb (by rw [Int.mul_sub]; omega) (by omega) (by omega)]
    simp [c]
  · rw [div_of (q := a.tdiv b) (r := a.tmod b) hb (by omega) (by omega) (by omega)]
    simp [c]
theorem div_bound {a b : Int} (hb : 0 < b) : -a.natAbs ≤ a / b ∧ a / b ≤ a.natAbs := by
  have := Int.natAbs_ediv_le_natAbs a b
  omega
theorem Up_eq {a b : Int} (hb : 0 < b) (ha : a.natAbs ≤ 4611686018427387904) : F_numbers_Up (a, b) = some (-((-a) / b)) := by
  have h := div_bound (a := -a) hb
  simp only [F_numbers_Up]
  rw [wr_in (n := 0 - a) (by omega) (by omega), show 0 - a = -a by omega, Down_eq hb (by omega)]
  simp only [Option.bind_some]
  rw [wr_in (by omega) (by omega)]
  simp
theorem loop_range {S E : Type} {step : S → Option (S ⊕ E)} (n : Nat) (st : Nat → S) (q : Nat → Bool) {e f : E} (h : ∀ k, k < n → step (st k) = some (if q k then .inl (st (k + 1)) else .inr f)) (he : step (st n) = some (.inr e)) :
    loopC step (st 0) = some (if (List.range n).all q then e else f) := by
  have := loop_list (List.range n) st q (e := e) (f := f) (step := step) (by intro k hk; simpa using h k (by simpa using hk)) (by simpa using he)
  exact this

theorem loop_range0 {E : Type} {step : Int → Option (Int ⊕ E)} (n : Nat) (q : Nat → Bool) {e f : E} (h : ∀ k : Nat, k < n → step (k : Int) = some (if q k then .inl ((k + 1 : Nat) : Int) else .inr f)) (he : step (n : Int) = some (.inr e)) : loopC step 0 = some (if (List.range n).all q then e else f) := loop_range n (fun k : Nat => (k : Int)) q h he
theorem loop_list0 {α E : Type} {step : Int → Option (Int ⊕ E)} (l : List α) (q : α → Bool) {e f : E} (h : ∀ (k : Nat) (hk : k < l.length), step (k : Int) = some (if q l[k] then .inl ((k + 1 : Nat) : Int) else .inr f)) (he : step (l.length : Int) = some (.inr e)) : loopC step 0 = some (if l.all q then e else f) := loop_list l (fun k : Nat => (k : Int)) q h he

theorem mulB {a b : Int} {A B : Nat} (ha : a.natAbs ≤ A) (hb : b.natAbs ≤ B) : (a * b).natAbs ≤ A * B := by
  rw [Int.natAbs_mul]; exact Nat.mul_le_mul ha hb

theorem mid_eq {lo hi : Nat} (h : lo ≤ hi) (hh : hi ≤ 1000000) : wr (Int.fdiv (IntKind.wrap .u64 (wr ((lo : Int) + (hi : Int)))) 2) = (((lo + hi) / 2 : Nat) : Int) := by
  rw [wr_in (n := (lo : Int) + (hi : Int)) (by omega) (by omega)]
  have e : IntKind.wrap .u64 ((lo : Int) + (hi : Int)) = ((lo + hi : Nat) : Int) := by
    simp [IntKind.wrap, IntKind.bits, IntKind.signed]; omega
  rw [e, show Int.fdiv ((lo + hi : Nat) : Int) 2 = (((lo + hi) / 2 : Nat) : Int) by rw [Int.fdiv_eq_ediv_of_nonneg _ (by omega)]; omega, wr_in (by omega) (by omega)]
set_option maxHeartbeats 2000000

/-! the law -/
theorem knownT_eq : F_thalweglaw03_known () = some true := rfl
set_option maxHeartbeats 2000000

/-- What is divided: v is the speed, q is power times grip, w is mass times the speed's square. -/
def nS (v q w : Int) : Int := 4320 * (v * q) + 1000 * w
def loS (v q w : Int) : Int := nS v q w / (2592 * q)
def hiS (v q w : Int) : Int := -((-nS v q w) / (2592 * q))
def stopB (m p : Int) (g : TBounds) (v : Int) : TBounds := ⟨loS v (p * g.High) (m * (v * v)), hiS v (p * g.Low) (m * (v * v))⟩

theorem pos_mul {a b A B : Int} (ha : 0 ≤ a ∧ a ≤ A) (hb : 0 ≤ b ∧ b ≤ B) : 0 ≤ a * b ∧ a * b ≤ A * B := by
  refine ⟨Int.mul_nonneg ha.1 hb.1, Int.mul_le_mul ha.2 hb.2 hb.1 (Int.le_trans ha.1 ha.2)⟩

structure Sp (m p g v : Int) : Prop where
  m : 0 ≤ m ∧ m ≤ 400000
  p : 1 ≤ p ∧ p ≤ 20000
  g : 1 ≤ g ∧ g ≤ 1000
  v : 0 ≤ v ∧ v ≤ 400
theorem Sp.q {m p g v : Int} (h : Sp m p g v) : 1 ≤ p * g ∧ p * g ≤ 20000000 := by
  have h1 := pos_mul (a := p - 1) (b := g - 1) (A := 19999) (B := 999) (by have := h.p; omega) (by have := h.g; omega)
  have h2 := pos_mul (a := p) (b := g) (A := 20000) (B := 1000) (by have := h.p; omega) (by have := h.g; omega)
  have h3 := h.p
  have h4 := h.g
  have e : (p - 1) * (g - 1) = p * g - p - g + 1 := by rw [Int.sub_mul, Int.mul_sub]; omega
  omega
theorem Sp.t {m p g v : Int} (h : Sp m p g v) : 0 ≤ v * (p * g) ∧ v * (p * g) ≤ 8000000000 := by
  have := pos_mul (a := v) (b := p * g) (A := 400) (B := 20000000) (by have := h.v; omega) (by have := h.q; omega)
  omega
theorem Sp.w {m p g v : Int} (h : Sp m p g v) : 0 ≤ m * (v * v) ∧ m * (v * v) ≤ 64000000000 := by
  have h1 := pos_mul (a := v) (b := v) (A := 400) (B := 400) (by have := h.v; omega) (by have := h.v; omega)
  have := pos_mul (a := m) (b := v * v) (A := 400000) (B := 160000) (by have := h.m; omega) (by omega)
  omega
theorem Sp.n {m p g v : Int} (h : Sp m p g v) : 0 ≤ nS v (p * g) (m * (v * v)) ∧ nS v (p * g) (m * (v * v)) ≤ 98560000000000 := by
  have := h.t
  have := h.w
  unfold nS
  omega
theorem den_wr {m p g v : Int} (h : Sp m p g v) : wr (wr (2592 * p) * g) = 2592 * (p * g) := by
  have := h.q
  have := h.p
  rw [wr_in (n := 2592 * p) (by omega) (by omega), Int.mul_assoc, wr_in (by omega) (by omega)]
theorem sq_wr {m p g v : Int} (h : Sp m p g v) : wr (wr (wr (m * 1000) * v) * v) = 1000 * (m * (v * v)) := by
  have h1 := h.m
  have h2 := h.w
  have h3 := pos_mul (a := m) (b := v) (A := 400000) (B := 400) (by omega) (by have := h.v; omega)
  rw [wr_in (n := m * 1000) (by omega) (by omega), show m * 1000 * v = 1000 * (m * v) by ac_rfl, wr_in (n := 1000 * (m * v)) (by omega) (by omega), show 1000 * (m * v) * v = 1000 * (m * (v * v)) by ac_rfl, wr_in (by omega) (by omega)]
theorem num_wr {m p g v : Int} (h : Sp m p g v) : wr (wr (wr (wr (wr (v * 5) * 864) * p) * g) + wr (wr (wr (m * 1000) * v) * v)) = nS v (p * g) (m * (v * v)) := by
  have h1 := h.v
  have h2 := h.t
  have h3 := pos_mul (a := v) (b := p) (A := 400) (B := 20000) (by omega) (by have := h.p; omega)
  have hw := h.w
  rw [sq_wr h, wr_in (n := v * 5) (by omega) (by omega), wr_in (n := v * 5 * 864) (by omega) (by omega), show v * 5 * 864 * p = 4320 * (v * p) by rw [show (4320 : Int) = 5 * 864 from rfl]; ac_rfl, wr_in (n := 4320 * (v * p)) (by omega) (by omega), show 4320 * (v * p) * g = 4320 * (v * (p * g)) by ac_rfl, wr_in (n := 4320 * (v * (p * g))) (by omega) (by omega)]
  exact wr_in (by omega) (by omega)
theorem hi_alt {n k : Int} (hk : 0 < k) : -((-n) / k) = (n + k - 1) / k := by
  have e := Int.emod_add_mul_ediv (-n) k
  have e1 := Int.emod_nonneg (-n) (show k ≠ 0 by omega)
  have e2 := Int.emod_lt_of_pos (-n) hk
  symm
  refine div_of (r := k - 1 - (-n) % k) hk ?_ (by omega) (by omega)
  rw [Int.mul_neg]
  omega

/-! more speed, more power, more mass -/
theorem hi_le {v q w c : Int} (hq : 0 < q) : hiS v q w ≤ c ↔ nS v q w ≤ c * (2592 * q) := by
  unfold hiS
  rw [show -(-nS v q w / (2592 * q)) ≤ c ↔ -c ≤ -nS v q w / (2592 * q) by omega, Int.le_ediv_iff_mul_le (by omega), Int.neg_mul]
  omega
theorem le_lo {v q w c : Int} (hq : 0 < q) : c ≤ loS v q w ↔ c * (2592 * q) ≤ nS v q w := Int.le_ediv_iff_mul_le (by omega)
theorem nS_mono {v v' q w w' : Int} (hq : 0 < q) (hv : v ≤ v') (hw : w ≤ w') : nS v q w ≤ nS v' q w' := by
  have := Int.mul_le_mul_of_nonneg_right hv (Int.le_of_lt hq)
  unfold nS
  omega
theorem hi_mono {v v' q w w' : Int} (hq : 0 < q) (hv : v ≤ v') (hw : w ≤ w') : hiS v q w ≤ hiS v' q w' := by
  rw [hi_le hq]
  exact Int.le_trans (nS_mono hq hv hw) ((hi_le hq).1 (Int.le_refl _))
theorem lo_mono {v v' q w w' : Int} (hq : 0 < q) (hv : v ≤ v') (hw : w ≤ w') : loS v q w ≤ loS v' q w' := by
  rw [le_lo hq]
  exact Int.le_trans ((le_lo hq).1 (Int.le_refl _)) (nS_mono hq hv hw)
/-- c times what divides, against what is divided: by how much c exceeds the way before the brakes. -/
theorem over {v q w c : Int} : nS v q w ≤ c * (2592 * q) ↔ 1000 * w ≤ (2592 * c - 4320 * v) * q := by
  unfold nS
  rw [Int.sub_mul, show c * (2592 * q) = 2592 * c * q by ac_rfl, show 4320 * (v * q) = 4320 * v * q by ac_rfl]
  omega
theorem under {v q w c : Int} : c * (2592 * q) ≤ nS v q w ↔ (2592 * c - 4320 * v) * q ≤ 1000 * w := by
  unfold nS
  rw [Int.sub_mul, show c * (2592 * q) = 2592 * c * q by ac_rfl, show 4320 * (v * q) = 4320 * v * q by ac_rfl]
  omega
theorem hi_force {v q q' w : Int} (hq : 0 < q) (hqq : q ≤ q') (hw : 0 ≤ w) : hiS v q' w ≤ hiS v q w := by
  rw [hi_le (by omega), over]
  have h := over.1 ((hi_le hq).1 (Int.le_refl (hiS v q w)))
  generalize 2592 * hiS v q w - 4320 * v = d at *
  have hd : 0 ≤ d := by
    rcases Int.lt_or_le d 0 with c | c
    · have := Int.mul_neg_of_neg_of_pos c hq
      omega
    · exact c
  have := Int.mul_le_mul_of_nonneg_left hqq hd
  omega
theorem lo_force {v q q' w : Int} (hq : 0 < q) (hqq : q ≤ q') (hw : 0 ≤ w) : loS v q' w ≤ loS v q w := by
  rw [le_lo hq, under]
  have h := under.1 ((le_lo (by omega)).1 (Int.le_refl (loS v q' w)))
  generalize 2592 * loS v q' w - 4320 * v = d at *
  rcases Int.lt_or_le d 0 with c | c
  · have := Int.mul_neg_of_neg_of_pos c hq
    omega
  · have := Int.mul_le_mul_of_nonneg_left hqq c
    omega
theorem lo_le_hi {v q w : Int} (hq : 0 < q) : loS v q w ≤ hiS v q w := by
  have h1 := (le_lo (v := v) (w := w) hq).1 (Int.le_refl _)
  have h2 := (hi_le (v := v) (w := w) hq).1 (Int.le_refl _)
  have h3 := Int.le_trans h1 h2
  exact Int.le_of_mul_le_mul_right h3 (by omega)
theorem lo_nonneg {v q w : Int} (hq : 0 < q) (hn : 0 ≤ nS v q w) : 0 ≤ loS v q w := by
  rw [le_lo hq]; omega
theorem hi_way {v q w : Int} (hq : 0 < q) (hw : 0 ≤ w) : 5 * v ≤ 3 * hiS v q w := by
  have h := over.1 ((hi_le hq).1 (Int.le_refl (hiS v q w)))
  rcases Int.lt_or_le (2592 * hiS v q w - 4320 * v) 0 with c | c
  · have := Int.mul_neg_of_neg_of_pos c hq
    omega
  · omega
theorem hi_zero {q : Int} : hiS 0 q 0 = 0 := by simp [hiS, nS]
theorem sq_mono {m v v' : Int} (hm : 0 ≤ m) (h0 : 0 ≤ v) (h : v ≤ v') : m * (v * v) ≤ m * (v' * v') :=
  Int.mul_le_mul_of_nonneg_left (Int.mul_le_mul h h h0 (by omega)) hm

/-! what is allowed -/
def canV (m p : Int) (g : TBounds) : Bool := inB m 0 400000 && (inB p 1 20000 && vB g 1 1000)
theorem canV_iff {m p : Int} {g : TBounds} : canV m p g = true ↔ (0 ≤ m ∧ m ≤ 400000) ∧ (1 ≤ p ∧ p ≤ 20000) ∧ g.Low ≤ g.High ∧ (1 ≤ g.Low ∧ g.Low ≤ 1000) ∧ 1 ≤ g.High ∧ g.High ≤ 1000 := by
  simp only [canV, vB, Bool.and_eq_true, inB_iff, decide_eq_true_eq]
theorem sp_of {m p : Int} {g : TBounds} (h : canV m p g = true) {v : Int} (hv : 0 ≤ v ∧ v ≤ 400) : Sp m p g.Low v ∧ Sp m p g.High v := by
  obtain ⟨a, b, c, d, e⟩ := canV_iff.1 h
  exact ⟨⟨a, b, d, hv⟩, ⟨a, b, e, hv⟩⟩
set_option maxHeartbeats 2000000

theorem tmod_in {a b : Int} (ha : 0 ≤ a) (hb : 0 < b) : 0 ≤ Int.tmod a b ∧ Int.tmod a b < b := ⟨Int.tmod_nonneg b ha, Int.tmod_lt_of_pos a hb⟩
theorem minmax_in {a b l h : Int} (up : Bool) (ha : l ≤ a ∧ a ≤ h) (hb : l ≤ b ∧ b ≤ h) : l ≤ minmax up a b ∧ minmax up a b ≤ h := by
  cases up <;> simp only [minmax, if_true, Bool.false_eq_true, if_false] <;> split <;> omega
theorem minmax_le {a b : Int} : minmax false a b ≤ minmax true a b := by
  simp only [minmax, if_true, Bool.false_eq_true, if_false]; split <;> split <;> omega
set_option maxHeartbeats 2000000

theorem every_Run {l : List TRun} {p : TRun → Option Bool} {q : TRun → Bool} {g : FuncId} {caps : List V} (hp : ∀ x ∈ l, p x = some (q x)) (hl : l.length ≤ 4611686018427387904) : F_numbers_Every_Run (l, p, g, caps) = some (l.all q) := by
  unfold F_numbers_Every_Run
  simp only
  rw [show (0 : Int) = ((0 : Nat) : Int) from rfl, loop_list l (fun k => (k : Int)) q (e := .inl ()) (f := .inr false)]
  · cases l.all q <;> rfl
  · intro k hk
    simp only [L_numbers_Every_Run_1, Int.ofNat_lt, hk, decide_true, cond_true, idx?_nat hk, Option.bind_some, hp _ (List.getElem_mem hk), wr_nat (show k < 9223372036854775807 by omega)]
    cases q l[k] <;> rfl
  · simp [L_numbers_Every_Run_1]
theorem if_bif {α : Type} (b : Bool) (x y : α) : (if b then x else y) = bif b then x else y := by cases b <;> rfl
def runV (x : TRun) : Bool := (inB x.From 0 100000 && inB x.To 0 100000) && (x.From != x.To && (vB x.Speed 1 400 && vB x.Wait 0 5000))
theorem validRun_eq (x : TRun) : F_tow_validRun x = some (runV x) := by
  simp only [F_tow_validRun, within2, valid_eq, Option.bind_some, bif_and, runV]
def runD (l : List TRun) (k : Nat) : TRun := l.getD k ⟨0, 0, ⟨0, 0⟩, ⟨0, 0⟩⟩
theorem runD_get {l : List TRun} {k : Nat} (h : k < l.length) : l[k] = runD l k := by simp [runD, h]
def dn (x : TRun) : Bool := decide (x.From < x.To)
def jP (l : List TRun) (j : Nat) : Bool := (runD l j).From == (runD l (j - 1)).To && (dn (runD l j) == dn (runD l (j - 1)))
def jOk (l : List TRun) : Bool := (List.range (l.length - 1)).all fun k => jP l (k + 1)
theorem joined_eq {l : List TRun} (hl : l.length ≤ 1000) : F_tow_joined l = some (jOk l) := by
  have h : loopC (L_tow_joined_1 l).step 1 = some (if jOk l then .inl () else .inr false) := by
    refine loop_list (List.range (l.length - 1)) (fun k => ((k + 1 : Nat) : Int)) (fun k => jP l (k + 1)) (fun k hk => ?_) ?_
    · have hk' : k < l.length - 1 := by simpa using hk
      have h1 : k + 1 < l.length := by omega
      have h0 : k < l.length := by omega
      have e : wr (((k + 1 : Nat) : Int) - 1) = (k : Int) := by rw [wr_in (by omega) (by omega)]; omega
      simp only [L_tow_joined_1, Int.ofNat_lt, h1, decide_true, cond_true, idx?_nat h1, Option.bind_some, e, idx?_nat h0, F_tow_down, List.getElem_range, jP, Nat.add_sub_cancel, runD_get h1, runD_get h0, dn]
      rw [wr_nat (by omega)]
      by_cases c : (runD l (k + 1)).From = (runD l k).To
      · simp only [c, bne_self_eq_false, cond_false, beq_self_eq_true, Bool.true_and]
        cases (decide ((runD l k).To < (runD l (k + 1)).To) == decide ((runD l k).From < (runD l k).To)) <;> rfl
      · rw [if_bif, show ((runD l (k + 1)).From != (runD l k).To) = true from by simpa using c, show ((runD l (k + 1)).From == (runD l k).To) = false from by simpa using c]; rfl
    · have : ¬ (((List.range (l.length - 1)).length + 1 : Nat) : Int) < (l.length : Int) ∨ l.length = 0 := by simp; omega
      simp only [L_tow_joined_1]
      rw [decide_eq_false (show ¬ (((List.range (l.length - 1)).length + 1 : Nat) : Int) < (l.length : Int) by rw [List.length_range]; omega)]
      rfl
  simp only [F_tow_joined]
  rw [h]
  cases jOk l <;> rfl
def voyV (v : TVoyage) : Bool := vB v.Start 0 1000000 && (inB (v.Runs.length : Int) 1 20 && (inB v.Length 1 3000 && (inB v.Width 1 200 && (v.Runs.all runV && jOk v.Runs))))
theorem Check_eq (v : TVoyage) : F_tow_Check v = some (bif voyV v then 0 else 2) := by
  simp only [F_tow_Check, valid_eq, within1, Option.bind_some, voyV]
  cases vB v.Start 0 1000000 with
  | false => rfl
  | true =>
    cases hn : inB (v.Runs.length : Int) 1 20 with
    | false => rfl
    | true =>
      have hn := inB_iff.1 hn
      cases inB v.Length 1 3000 with
      | false => rfl
      | true =>
        cases inB v.Width 1 200 with
        | false => rfl
        | true =>
          simp only [Bool.not_true, cond_false, Bool.true_and]
          rw [every_Run (q := runV) (fun x _ => validRun_eq x) (by omega), joined_eq (by omega)]
          cases v.Runs.all runV <;> cases jOk v.Runs <;> rfl
def jR (l : List TRun) (k : Nat) : Bool := runV (runD l k) && (decide (k = 0) || ((runD l k).From == (runD l (k - 1)).To && (dn (runD l k) == dn (runD l 0))))
theorem jR_all {l : List TRun} : (List.range l.length).all (jR l) = (l.all runV && jOk l) := by
  rw [Bool.eq_iff_iff]
  simp only [List.all_eq_true, List.mem_range, Bool.and_eq_true, jOk]
  constructor
  · intro h
    have hd : ∀ k, k < l.length → dn (runD l k) = dn (runD l 0) := by
      intro k hk
      have := h k hk
      simp only [jR, Bool.and_eq_true, Bool.or_eq_true, decide_eq_true_eq, beq_iff_eq] at this
      rcases this.2 with e | e
      · rw [e]
      · exact e.2
    refine ⟨fun x hx => ?_, fun k hk => ?_⟩
    · obtain ⟨k, hk, rfl⟩ := List.getElem_of_mem hx
      have := h k hk
      simp only [jR, Bool.and_eq_true] at this
      rw [runD_get hk]; exact this.1
    · have := h (k + 1) (by omega)
      simp only [jR, Bool.and_eq_true, Bool.or_eq_true, decide_eq_true_eq, beq_iff_eq] at this
      rcases this.2 with e | e
      · omega
      · simp only [jP, Bool.and_eq_true, beq_iff_eq]
        exact ⟨e.1, by rw [e.2, Nat.add_sub_cancel, hd k (by omega)]⟩
  · rintro ⟨h1, h2⟩ k hk
    have hd : ∀ k, k < l.length → dn (runD l k) = dn (runD l 0) := by
      intro k
      induction k with
      | zero => intro _; rfl
      | succ k ih =>
        intro hk
        have := h2 k (by omega)
        simp only [jP, Bool.and_eq_true, beq_iff_eq, Nat.add_sub_cancel] at this
        rw [this.2, ih (by omega)]
    simp only [jR, Bool.and_eq_true, Bool.or_eq_true, decide_eq_true_eq, beq_iff_eq]
    refine ⟨by rw [← runD_get hk]; exact h1 _ (List.getElem_mem hk), ?_⟩
    cases k with
    | zero => exact Or.inl rfl
    | succ k =>
      have := h2 k (by omega)
      simp only [jP, Bool.and_eq_true, beq_iff_eq] at this
      exact Or.inr ⟨this.1, hd _ hk⟩
set_option maxHeartbeats 2000000

def dst (a b : Int) : Int := minmax true (b - a) (a - b)
theorem dst_comm (a b : Int) : minmax true (a - b) (b - a) = dst a b := by
  simp only [dst, minmax, if_true]; split <;> split <;> omega
theorem dst_le {a b : Int} (ha : 0 ≤ a ∧ a ≤ 100000) (hb : 0 ≤ b ∧ b ≤ 100000) : 0 ≤ dst a b ∧ dst a b ≤ 100000 := by
  simp only [dst, minmax, if_true]; split <;> omega
def upM (d s : Int) : Int := -((-(60 * d)) / s)
theorem upM_le {d s : Int} (hd : 0 ≤ d ∧ d ≤ 100000) (hs : 1 ≤ s) : 0 ≤ upM d s ∧ upM d s ≤ 6000000 := by
  have h1 := div_bound (a := -(60 * d)) (b := s) (by omega)
  have h2 : 0 ≤ upM d s := by
    unfold upM
    rw [hi_alt (by omega)]
    exact Int.ediv_nonneg (by omega) (by omega)
  unfold upM at *
  omega
def untilB (x : TRun) (place : Int) : TBounds := ⟨x.Wait.Low + upM (dst x.From place) x.Speed.High, x.Wait.High + upM (dst x.From place) x.Speed.Low⟩
structure Rn (x : TRun) : Prop where
  frm : 0 ≤ x.From ∧ x.From ≤ 100000
  to : 0 ≤ x.To ∧ x.To ≤ 100000
  ne : x.From ≠ x.To
  slo : 1 ≤ x.Speed.Low ∧ x.Speed.Low ≤ 400
  shi : 1 ≤ x.Speed.High ∧ x.Speed.High ≤ 400
  sle : x.Speed.Low ≤ x.Speed.High
  wlo : 0 ≤ x.Wait.Low ∧ x.Wait.Low ≤ 5000
  whi : 0 ≤ x.Wait.High ∧ x.Wait.High ≤ 5000
  wle : x.Wait.Low ≤ x.Wait.High
theorem rn_of {x : TRun} (h : runV x = true) : Rn x := by
  simp only [runV, vB, Bool.and_eq_true, inB_iff, decide_eq_true_eq, bne_iff_ne, ne_eq] at h
  obtain ⟨⟨a, b⟩, c, ⟨d, e, f⟩, g, i, j⟩ := h
  exact ⟨a, b, c, e, f, d, i, j, g⟩
theorem until_le {x : TRun} (h : Rn x) {place : Int} (hp : 0 ≤ place ∧ place ≤ 100000) : (0 ≤ (untilB x place).Low ∧ (untilB x place).Low ≤ 6005000) ∧ 0 ≤ (untilB x place).High ∧ (untilB x place).High ≤ 6005000 := by
  have hd := dst_le h.frm hp
  have h1 := upM_le hd h.shi.1
  have h2 := upM_le hd h.slo.1
  have h3 := h.wlo
  have h4 := h.whi
  simp only [untilB]
  omega
theorem until_eq {x : TRun} (h : Rn x) {place : Int} (hp : 0 ≤ place ∧ place ≤ 100000) : F_tow_until (x, place) = some (untilB x place) := by
  have hf := h.frm
  have hd := dst_le hf hp
  have h1 := upM_le hd h.shi.1
  have h2 := upM_le hd h.slo.1
  have h3 := h.wlo
  have h4 := h.whi
  have e : minmax true (place - x.From) (x.From - place) = dst x.From place := rfl
  simp only [F_tow_until]
  rw [wr_in (n := place - x.From) (by omega) (by omega), wr_in (n := x.From - place) (by omega) (by omega), e, wr_in (n := 60 * dst x.From place) (by omega) (by omega),
    Up_eq (b := x.Speed.High) (by have := h.shi; omega) (by omega), Up_eq (b := x.Speed.Low) (by have := h.slo; omega) (by omega)]
  simp only [Option.bind_some]
  unfold upM at h1 h2
  rw [wr_in (n := x.Wait.Low + _) (by omega) (by omega), wr_in (n := x.Wait.High + _) (by omega) (by omega)]
  rfl
theorem Sum2 {p q : TBounds} (h1 : 0 ≤ p.Low ∧ p.Low ≤ 1000000000) (h2 : 0 ≤ p.High ∧ p.High ≤ 1000000000) (h3 : 0 ≤ q.Low ∧ q.Low ≤ 1000000000) (h4 : 0 ≤ q.High ∧ q.High ≤ 1000000000) : F_numbers_Sum [p, q] = some ⟨p.Low + q.Low, p.High + q.High⟩ := by
  have e1 : (L_numbers_Sum_1 [p, q]).step (0, 0, 0) = some (.inl (1, p.Low, p.High)) := by
    have : idx? [p, q] 0 = some p := idx?_nat (l := [p, q]) (k := 0) (by simp)
    simp only [L_numbers_Sum_1, this, Option.bind_some]
    rw [wr_in (n := 0 + p.Low) (by omega) (by omega), wr_in (n := 0 + p.High) (by omega) (by omega)]
    simp only [Int.zero_add]
    rfl
  have e2 : (L_numbers_Sum_1 [p, q]).step (1, p.Low, p.High) = some (.inl (2, p.Low + q.Low, p.High + q.High)) := by
    have : idx? [p, q] 1 = some q := idx?_nat (l := [p, q]) (k := 1) (by simp)
    simp only [L_numbers_Sum_1, this, Option.bind_some]
    rw [wr_in (n := p.Low + q.Low) (by omega) (by omega), wr_in (n := p.High + q.High) (by omega) (by omega)]
    rfl
  have e3 : (L_numbers_Sum_1 [p, q]).step (2, p.Low + q.Low, p.High + q.High) = some (.inr (p.Low + q.Low, p.High + q.High)) := rfl
  simp only [F_numbers_Sum]
  rw [loopC_eq, e1]
  simp only
  rw [loopC_eq, e2]
  simp only
  rw [loopC_eq, e3]
  rfl
theorem covers1 (a b n : Int) : F_tow_covers (a, b, [n]) = some (inB n (minmax false a b) (minmax true a b)) := by
  simp only [F_tow_covers, within1, Option.bind_some]
theorem btw_end (a b : Int) : inB b (minmax false a b) (minmax true a b) = true ∧ inB a (minmax false a b) (minmax true a b) = true := by
  simp only [inB_iff, minmax, if_true, Bool.false_eq_true, if_false]
  refine ⟨?_, ?_⟩ <;> split <;> split <;> omega
def aGo (place : Int) : List TRun → Int → Int → Int × Int
  | [], lo, hi => (lo, hi)
  | x :: m, lo, hi => if place = x.From then (lo, hi) else if inB place (minmax false x.From x.To) (minmax true x.From x.To) then (lo + (untilB x place).Low, hi + (untilB x place).High) else aGo place m (lo + (untilB x x.To).Low) (hi + (untilB x x.To).High)
structure Vy (v : TVoyage) : Prop where
  start : (0 ≤ v.Start.Low ∧ v.Start.Low ≤ 1000000) ∧ (0 ≤ v.Start.High ∧ v.Start.High ≤ 1000000)
  sle : v.Start.Low ≤ v.Start.High
  runs : 1 ≤ v.Runs.length ∧ v.Runs.length ≤ 20
  len : 1 ≤ v.Length ∧ v.Length ≤ 3000
  each : ∀ x ∈ v.Runs, Rn x
  join : ∀ k, k + 1 < v.Runs.length → (runD v.Runs (k + 1)).From = (runD v.Runs k).To
  dirs : ∀ k, k + 1 < v.Runs.length → dn (runD v.Runs (k + 1)) = dn (runD v.Runs k)
theorem vy_of {v : TVoyage} (h : voyV v = true) : Vy v := by
  simp only [voyV, vB, Bool.and_eq_true, inB_iff, decide_eq_true_eq, List.all_eq_true, jOk, List.mem_range, jP, beq_iff_eq] at h
  obtain ⟨⟨a, b, c⟩, d, e, f, g, i⟩ := h
  exact ⟨⟨b, c⟩, a, by omega, e, fun x hx => rn_of (g x hx), fun k hk => (i k (by omega)).1, fun k hk => (i k (by omega)).2⟩
theorem arrive_loop {v : TVoyage} (hv : Vy v) {place : Int} (hp : 0 ≤ place ∧ place ≤ 100000) : ∀ (m : List TRun) (k : Nat) (bow lo hi : Int), v.Runs.drop k = m → (∀ x m', m = x :: m' → bow = x.From) → 0 ≤ lo → lo ≤ 1000000 + 6005000 * k → 0 ≤ hi → hi ≤ 1000000 + 6005000 * k →
    loopC (L_tow_arrive_1 place v).step (bow, (k : Int), lo, hi) = some (aGo place m lo hi)
  | [], k, bow, lo, hi, h, _, _, _, _, _ => by
    have := drop_nil h
    rw [loopC_eq]
    simp [L_tow_arrive_1, show ¬ k < v.Runs.length by omega, aGo]
  | x :: m, k, bow, lo, hi, h, hb, l0, l1, h0, h1 => by
    obtain ⟨hk1, hg, hd⟩ := drop_cons h
    have hn := hv.runs
    have hx : Rn x := by rw [← hg]; exact hv.each _ (List.getElem_mem hk1)
    have hbow := hb x m rfl
    subst hbow
    rw [loopC_eq]
    generalize hLL : loopC (L_tow_arrive_1 place v).step = LL
    simp only [L_tow_arrive_1, Int.ofNat_lt, hk1, decide_true, cond_true, idx?_nat hk1, hg, Option.bind_some, covers1]
    rw [aGo]
    by_cases c : place = x.From
    · subst c
      simp
    · rw [if_neg c, show (x.From == place) = false from by rw [beq_eq_false_iff_ne]; exact fun e => c e.symm]
      have hu := until_le hx hp
      have ht := until_le hx hx.to
      cases c2 : inB place (minmax false x.From x.To) (minmax true x.From x.To) with
      | true =>
        simp only [cond_false, cond_true, until_eq hx hp, Option.bind_some, if_true]
        rw [Sum2 (by simp only; omega) (by simp only; omega) (by omega) (by omega)]
        simp only [Option.bind_some]
        subst hLL
        rw [wr_nat (by omega), loopC_eq]
        by_cases c3 : k + 1 < v.Runs.length
        · simp only [L_tow_arrive_1, Int.ofNat_lt, c3, decide_true, cond_true, idx?_nat c3, Option.bind_some, beq_self_eq_true]
        · simp only [L_tow_arrive_1, Int.ofNat_lt, c3, decide_false, cond_false]
      | false =>
        simp only [cond_false, until_eq hx hx.to, Option.bind_some, Bool.false_eq_true, if_false]
        rw [Sum2 (by simp only; omega) (by simp only; omega) (by omega) (by omega)]
        simp only [Option.bind_some]
        subst hLL
        rw [wr_nat (by omega)]
        refine arrive_loop hv hp m (k + 1) x.To _ _ hd ?_ (by omega) (by omega) (by omega) (by omega)
        intro y m' hy
        subst hy
        obtain ⟨hk2, hg2, _⟩ := drop_cons hd
        have := hv.join k hk2
        rw [← runD_get hk2, ← runD_get hk1, hg, hg2] at this
        exact this.symm
def arrB (v : TVoyage) (place : Int) : TBounds := ⟨(aGo place v.Runs v.Start.Low v.Start.High).1, (aGo place v.Runs v.Start.Low v.Start.High).2⟩
theorem arrive_eq {v : TVoyage} (hv : Vy v) {place : Int} (hp : 0 ≤ place ∧ place ≤ 100000) : F_tow_arrive (v, place) = some (arrB v place) := by
  have hn := hv.runs
  have hs := hv.start
  have h0 : 0 < v.Runs.length := by omega
  have hz : idx? v.Runs 0 = some v.Runs[0] := idx?_nat (k := 0) h0
  · simp only [F_tow_arrive, hz, Option.bind_some]
    have := arrive_loop hv hp v.Runs 0 v.Runs[0].From v.Start.Low v.Start.High rfl (fun x m h => by simp only [h, List.getElem_cons_zero]) (by omega) (by omega) (by omega) (by omega)
    have this : loopC (L_tow_arrive_1 place v).step (v.Runs[0].From, 0, v.Start.Low, v.Start.High) = _ := this
    rw [this]
    rfl
def endsOf (v : TVoyage) : Int × Int := ((runD v.Runs 0).From, (runD v.Runs (v.Runs.length - 1)).To)
theorem ends_eq {v : TVoyage} (hv : Vy v) : F_tow_ends v = some (endsOf v) := by
  have hn := hv.runs
  have h0 : 0 < v.Runs.length := by omega
  have h1 : v.Runs.length - 1 < v.Runs.length := by omega
  have hz : idx? v.Runs 0 = some v.Runs[0] := idx?_nat (k := 0) h0
  have e : wr ((v.Runs.length : Int) - 1) = ((v.Runs.length - 1 : Nat) : Int) := by rw [wr_in (by omega) (by omega)]; omega
  simp only [F_tow_ends, hz, e, idx?_nat h1, Option.bind_some, endsOf, runD_get h0, runD_get h1]
def onW (v : TVoyage) (n : Int) : Bool := inB n (minmax false (endsOf v).1 (endsOf v).2) (minmax true (endsOf v).1 (endsOf v).2)
theorem onWay_eq {v : TVoyage} (hv : Vy v) (n : Int) : F_tow_onWay (v, [n]) = some (onW v n) := by
  simp only [F_tow_onWay, ends_eq hv, covers1, Option.bind_some, onW]
theorem ends_in {v : TVoyage} (hv : Vy v) : (0 ≤ (endsOf v).1 ∧ (endsOf v).1 ≤ 100000) ∧ 0 ≤ (endsOf v).2 ∧ (endsOf v).2 ≤ 100000 := by
  have hn := hv.runs
  have h0 : 0 < v.Runs.length := by omega
  have h1 : v.Runs.length - 1 < v.Runs.length := by omega
  refine ⟨?_, ?_⟩
  · show 0 ≤ (runD v.Runs 0).From ∧ (runD v.Runs 0).From ≤ 100000
    rw [← runD_get h0]; exact (hv.each _ (List.getElem_mem h0)).frm
  · show 0 ≤ (runD v.Runs (v.Runs.length - 1)).To ∧ (runD v.Runs (v.Runs.length - 1)).To ≤ 100000
    rw [← runD_get h1]; exact (hv.each _ (List.getElem_mem h1)).to
theorem onW_in {v : TVoyage} (hv : Vy v) {n : Int} (h : onW v n = true) : 0 ≤ n ∧ n ≤ 100000 := by
  obtain ⟨a, b⟩ := ends_in hv
  have c := minmax_in false a b
  have d := minmax_in true a b
  have := inB_iff.1 h
  omega
theorem Arrive_eq (v : TVoyage) (n : Int) : F_tow_Arrive (v, n) = some (bif voyV v then (bif onW v n then (arrB v n, 0) else (⟨0, 0⟩, 7)) else (⟨0, 0⟩, 2)) := by
  simp only [F_tow_Arrive, Check_eq, Option.bind_some]
  cases h : voyV v with
  | false => rfl
  | true =>
    have hv := vy_of h
    simp only [cond_true, bne_self_eq_false, cond_false, onWay_eq hv, Option.bind_some]
    cases ho : onW v n with
    | false => rfl
    | true => simp only [Bool.not_true, cond_false, arrive_eq hv (onW_in hv ho), Option.bind_some, cond_true]
theorem copiedV_eq {v : TVoyage} (h : v.Runs.length ≤ 1000) : F_thalweglaw03_copied v = some v := by
  simp only [F_thalweglaw03_copied]
  rw [app_nil (m := v.Runs) (by omega) (by decide)]
  rfl
set_option maxHeartbeats 2000000

def tl (v : TVoyage) : Int := -((-v.Length) / 100)
theorem tl_in {v : TVoyage} (hv : Vy v) : 1 ≤ tl v ∧ tl v ≤ 30 := by
  have := hv.len
  unfold tl
  omega
/-- A voyage goes down as its first run does. -/
theorem ends_dir {v : TVoyage} (hv : Vy v) : dn (runD v.Runs 0) = decide ((endsOf v).1 < (endsOf v).2) ∧ (endsOf v).1 ≠ (endsOf v).2 := by
  have hn := hv.runs
  have hr : ∀ k, k < v.Runs.length → Rn (runD v.Runs k) := fun k hk => by rw [← runD_get hk]; exact hv.each _ (List.getElem_mem hk)
  have key : ∀ k, k < v.Runs.length → dn (runD v.Runs k) = dn (runD v.Runs 0) ∧ (bif dn (runD v.Runs 0) then decide ((runD v.Runs 0).From < (runD v.Runs k).To) else decide ((runD v.Runs k).To < (runD v.Runs 0).From)) = true := by
    intro k
    induction k with
    | zero =>
      intro hk
      have := (hr 0 hk).ne
      refine ⟨rfl, ?_⟩
      cases h : dn (runD v.Runs 0) with
      | true => exact h
      | false =>
        have := of_decide_eq_false h
        exact decide_eq_true (by omega)
    | succ k ih =>
      intro hk
      obtain ⟨h1, h2⟩ := ih (by omega)
      have h3 := hv.dirs k hk
      have h4 := hv.join k hk
      have h5 := (hr (k + 1) hk).ne
      refine ⟨by rw [h3, h1], ?_⟩
      have h6 : dn (runD v.Runs (k + 1)) = dn (runD v.Runs 0) := by rw [h3, h1]
      cases h : dn (runD v.Runs 0) with
      | true =>
        rw [h] at h2 h6
        have a := of_decide_eq_true h2
        have b := of_decide_eq_true h6
        exact decide_eq_true (by omega)
      | false =>
        rw [h] at h2 h6
        have a := of_decide_eq_true h2
        have b := of_decide_eq_false h6
        exact decide_eq_true (by omega)
  have hk := (key (v.Runs.length - 1) (by omega)).2
  simp only [endsOf]
  cases h : dn (runD v.Runs 0) with
  | true =>
    rw [h] at hk
    have hk := of_decide_eq_true hk
    exact ⟨(decide_eq_true hk).symm, by omega⟩
  | false =>
    rw [h] at hk
    have hk := of_decide_eq_true hk
    exact ⟨(decide_eq_false (by omega)).symm, by omega⟩
theorem onWay2 {v : TVoyage} (hv : Vy v) (a b : Int) : F_tow_onWay (v, [a, b]) = some (onW v a && onW v b) := by
  simp only [F_tow_onWay, ends_eq hv, F_tow_covers, within2, Option.bind_some, onW]
theorem mm_lt {a b : Int} (h : a < b) : minmax false a b = a ∧ minmax true a b = b ∧ minmax false b a = a ∧ minmax true b a = b := by
  simp only [minmax, if_true, Bool.false_eq_true, if_false]
  refine ⟨?_, ?_, ?_, ?_⟩ <;> split <;> omega
set_option maxHeartbeats 2000000

def pickV (b : TBounds) (y : Int) : Int := b.Low + (b.High - b.Low) * y / 255
theorem pick_in {b : TBounds} (h : b.Low ≤ b.High) {y : Int} (hy : 0 ≤ y ∧ y ≤ 255) : b.Low ≤ pickV b y ∧ pickV b y ≤ b.High := by
  have h1 : 0 ≤ (b.High - b.Low) * y := Int.mul_nonneg (by omega) hy.1
  have h2 : (b.High - b.Low) * y ≤ (b.High - b.Low) * 255 := Int.mul_le_mul_of_nonneg_left hy.2 (by omega)
  unfold pickV
  generalize (b.High - b.Low) * y = w at *
  omega
def partV (l : List Int) (i : Nat) : Int := l.getD (i % l.length) 0
theorem part_in {l : List Int} (h : ∀ y ∈ l, 0 ≤ y ∧ y ≤ 255) (i : Nat) : 0 ≤ partV l i ∧ partV l i ≤ 255 := by
  unfold partV
  rw [List.getD_eq_getElem?_getD]
  cases hg : l[i % l.length]? with
  | none => simp
  | some y =>
    obtain ⟨hk, e⟩ := List.getElem?_eq_some_iff.1 hg
    simp only [Option.getD_some]
    exact h y (e ▸ List.getElem_mem hk)
def tGo (x : Tthalweglaw03_Truth) (place : Int) : List TRun → Nat → Int → Int
  | [], _, _ => -1
  | r :: m, k, n => if place = r.From then n else if inB place (minmax false r.From r.To) (minmax true r.From r.To) then n + pickV r.Wait (partV x.Wait k) + upM (dst r.From place) (pickV r.Speed (partV x.Speeds k)) else tGo x place m (k + 1) (n + pickV r.Wait (partV x.Wait k) + upM (dst r.From r.To) (pickV r.Speed (partV x.Speeds k)))
structure Tr (x : Tthalweglaw03_Truth) : Prop where
  start : 0 ≤ x.Start ∧ x.Start ≤ 255
  speeds : ∀ y ∈ x.Speeds, 0 ≤ y ∧ y ≤ 255
  wait : ∀ y ∈ x.Wait, 0 ≤ y ∧ y ≤ 255
theorem btw_alt {f t p : Int} (hne : f ≠ t) (hp : p ≠ f) : ((decide (p - f > 0) == decide (t > f)) && decide (dst f p ≤ dst f t)) = inB p (minmax false f t) (minmax true f t) := by
  rw [Bool.eq_iff_iff]
  simp only [Bool.and_eq_true, beq_iff_eq, decide_eq_decide, decide_eq_true_eq, inB_iff, dst, minmax, if_true, Bool.false_eq_true, if_false]
  split <;> split <;> split <;> split <;> omega
theorem rnIn {r : TRun} (hr : Rn r) {x : Tthalweglaw03_Truth} (hx : Tr x) (k : Nat) : (r.Speed.Low ≤ pickV r.Speed (partV x.Speeds k) ∧ pickV r.Speed (partV x.Speeds k) ≤ r.Speed.High) ∧ r.Wait.Low ≤ pickV r.Wait (partV x.Wait k) ∧ pickV r.Wait (partV x.Wait k) ≤ r.Wait.High :=
  ⟨pick_in hr.sle (part_in hx.speeds k), pick_in hr.wle (part_in hx.wait k)⟩
def truV (v : TVoyage) (x : Tthalweglaw03_Truth) (place : Int) : Int := tGo x place v.Runs 0 (pickV v.Start x.Start)
/-! where a place is found -/
def found (place : Int) : List TRun → Prop
  | [] => False
  | r :: m => place = r.From ∨ inB place (minmax false r.From r.To) (minmax true r.From r.To) = true ∨ found place m
theorem up_le {d s c : Int} (hs : 0 < s) : upM d s ≤ c ↔ 60 * d ≤ c * s := by
  unfold upM
  rw [show -(-(60 * d) / s) ≤ c ↔ -c ≤ -(60 * d) / s by omega, Int.le_ediv_iff_mul_le hs, Int.neg_mul]
  omega
theorem up_mono {d d' s s' : Int} (hd0 : 0 ≤ d) (hd : d ≤ d') (hs : 0 < s') (hss : s' ≤ s) : upM d s ≤ upM d' s' := by
  have h := (up_le hs).1 (Int.le_refl (upM d' s'))
  rw [up_le (by omega)]
  have h0 : 0 ≤ upM d' s' := by
    unfold upM
    rw [hi_alt hs]
    exact Int.ediv_nonneg (by omega) (by omega)
  have := Int.mul_le_mul_of_nonneg_left hss h0
  omega
theorem t_bounds {x : Tthalweglaw03_Truth} (hx : Tr x) {place : Int} (hp : 0 ≤ place ∧ place ≤ 100000) : ∀ (m : List TRun) (k : Nat) (lo n hi : Int), (∀ r ∈ m, Rn r) → found place m → lo ≤ n → n ≤ hi → (aGo place m lo hi).1 ≤ tGo x place m k n ∧ tGo x place m k n ≤ (aGo place m lo hi).2
  | [], _, _, _, _, _, hf, _, _ => hf.elim
  | r :: m, k, lo, n, hi, hm, hf, h1, h2 => by
    have hr := hm r (by simp)
    have ⟨hs, hw⟩ := rnIn hr hx k
    have e1 := hr.slo
    rw [aGo, tGo]
    by_cases c : place = r.From
    · rw [if_pos c, if_pos c]; exact ⟨h1, h2⟩
    · rw [if_neg c, if_neg c]
      have d1 := dst_le hr.frm hp
      have d2 := dst_le hr.frm hr.to
      by_cases c2 : inB place (minmax false r.From r.To) (minmax true r.From r.To) = true
      · rw [if_pos c2, if_pos c2]
        have a := up_mono (d := dst r.From place) (d' := dst r.From place) (s := r.Speed.High) (s' := pickV r.Speed (partV x.Speeds k)) d1.1 (Int.le_refl _) (by omega) hs.2
        have b := up_mono (d := dst r.From place) (d' := dst r.From place) (s := pickV r.Speed (partV x.Speeds k)) (s' := r.Speed.Low) d1.1 (Int.le_refl _) (by omega) hs.1
        simp only [untilB]
        omega
      · rw [if_neg c2, if_neg c2]
        have a := up_mono (d := dst r.From r.To) (d' := dst r.From r.To) (s := r.Speed.High) (s' := pickV r.Speed (partV x.Speeds k)) d2.1 (Int.le_refl _) (by omega) hs.2
        have b := up_mono (d := dst r.From r.To) (d' := dst r.From r.To) (s := pickV r.Speed (partV x.Speeds k)) (s' := r.Speed.Low) d2.1 (Int.le_refl _) (by omega) hs.1
        refine t_bounds hx hp m (k + 1) _ _ _ (fun y hy => hm y (by simp [hy])) ?_ ?_ ?_
        · rcases hf with hf | hf | hf
          · exact absurd hf c
          · exact absurd hf c2
          · exact hf
        · simp only [untilB]; omega
        · simp only [untilB]; omega
theorem t_ge {x : Tthalweglaw03_Truth} (hx : Tr x) {place : Int} (hp : 0 ≤ place ∧ place ≤ 100000) : ∀ (m : List TRun) (k : Nat) (n : Int), (∀ r ∈ m, Rn r) → found place m → n ≤ tGo x place m k n
  | [], _, _, _, hf => hf.elim
  | r :: m, k, n, hm, hf => by
    have hr := hm r (by simp)
    have ⟨hs, hw⟩ := rnIn hr hx k
    have e1 := hr.slo
    have e3 := hr.wlo
    have d1 := dst_le hr.frm hp
    have d2 := dst_le hr.frm hr.to
    have u1 := upM_le d1 (s := pickV r.Speed (partV x.Speeds k)) (by omega)
    have u2 := upM_le d2 (s := pickV r.Speed (partV x.Speeds k)) (by omega)
    rw [tGo]
    by_cases c : place = r.From
    · rw [if_pos c]; exact Int.le_refl _
    · rw [if_neg c]
      by_cases c2 : inB place (minmax false r.From r.To) (minmax true r.From r.To) = true
      · rw [if_pos c2]; omega
      · rw [if_neg c2]
        have := t_ge hx hp m (k + 1) (n + pickV r.Wait (partV x.Wait k) + upM (dst r.From r.To) (pickV r.Speed (partV x.Speeds k))) (fun y hy => hm y (by simp [hy])) (by
          rcases hf with hf | hf | hf
          · exact absurd hf c
          · exact absurd hf c2
          · exact hf)
        omega
/-- One after the other, all in one direction. -/
def chain (dir : Bool) : List TRun → Prop
  | [] => True
  | r :: m => dn r = dir ∧ (∀ y m', m = y :: m' → y.From = r.To) ∧ chain dir m
def lastTo : List TRun → Int
  | [] => 0
  | r :: m => if m = [] then r.To else lastTo m
def bef (dir : Bool) (a b : Int) : Prop := if dir then a ≤ b else b ≤ a
theorem found_of (dir : Bool) {place : Int} : ∀ (r : TRun) (m : List TRun), (∀ y ∈ r :: m, Rn y) → chain dir (r :: m) → bef dir r.From place → bef dir place (lastTo (r :: m)) → found place (r :: m)
  | r, [], hm, hc, h1, h2 => by
    have hr := hm r (by simp)
    refine Or.inr (Or.inl ?_)
    have hd := hc.1
    simp only [lastTo, if_true] at h2
    rw [inB_iff]
    cases dir with
    | true =>
      have := of_decide_eq_true hd
      obtain ⟨m1, m2, _, _⟩ := mm_lt this
      simp only [bef, if_true] at h1 h2
      omega
    | false =>
      have := of_decide_eq_false hd
      have hne := hr.ne
      obtain ⟨_, _, m1, m2⟩ := mm_lt (show r.To < r.From by omega)
      simp only [bef, Bool.false_eq_true, if_false] at h1 h2
      omega
  | r, y :: m, hm, hc, h1, h2 => by
    have hr := hm r (by simp)
    have hd := hc.1
    have hj := hc.2.1 y m rfl
    by_cases c : inB place (minmax false r.From r.To) (minmax true r.From r.To) = true
    · exact Or.inr (Or.inl c)
    · refine Or.inr (Or.inr (found_of dir y m (fun z hz => hm z (by simp only [List.mem_cons] at hz ⊢; exact Or.inr hz)) hc.2.2 ?_ ?_))
      · rw [inB_iff] at c
        rw [hj]
        cases dir with
        | true =>
          have := of_decide_eq_true hd
          obtain ⟨m1, m2, _, _⟩ := mm_lt this
          simp only [bef, if_true] at h1 ⊢
          omega
        | false =>
          have := of_decide_eq_false hd
          have hne := hr.ne
          obtain ⟨_, _, m1, m2⟩ := mm_lt (show r.To < r.From by omega)
          simp only [bef, Bool.false_eq_true, if_false] at h1 ⊢
          omega
      · have e : lastTo (r :: y :: m) = lastTo (y :: m) := by rw [lastTo, if_neg (by simp)]
        rw [e] at h2
        exact h2
theorem t_mono (dir : Bool) {x : Tthalweglaw03_Truth} (hx : Tr x) {p q : Int} (hp : 0 ≤ p ∧ p ≤ 100000) (hq : 0 ≤ q ∧ q ≤ 100000) (hpq : bef dir p q) : ∀ (r : TRun) (m : List TRun) (k : Nat) (n : Int), (∀ y ∈ r :: m, Rn y) → chain dir (r :: m) → bef dir r.From p → found p (r :: m) → found q (r :: m) → tGo x p (r :: m) k n ≤ tGo x q (r :: m) k n := by
  intro r m
  induction m generalizing r with
  | nil =>
    intro k n hm hc h1 hfp hfq
    exact t_mono_step dir hx hp hq hpq r [] k n hm hc h1 hfp hfq (fun y m' h => by cases h)
  | cons y m ih =>
    intro k n hm hc h1 hfp hfq
    refine t_mono_step dir hx hp hq hpq r (y :: m) k n hm hc h1 hfp hfq (fun z m' h n' h2 h3 h4 => ?_)
    cases h
    exact ih y (k + 1) n' (fun w hw => hm w (by simp only [List.mem_cons] at hw ⊢; exact Or.inr hw)) hc.2.2 h2 h3 h4
where
  t_mono_step (dir : Bool) {x : Tthalweglaw03_Truth} (hx : Tr x) {p q : Int} (hp : 0 ≤ p ∧ p ≤ 100000) (hq : 0 ≤ q ∧ q ≤ 100000) (hpq : bef dir p q) (r : TRun) (m : List TRun) (k : Nat) (n : Int) (hm : ∀ y ∈ r :: m, Rn y) (hc : chain dir (r :: m)) (h1 : bef dir r.From p) (hfp : found p (r :: m)) (hfq : found q (r :: m))
      (ih : ∀ (y : TRun) (m' : List TRun), m = y :: m' → ∀ n, bef dir y.From p → found p m → found q m → tGo x p m (k + 1) n ≤ tGo x q m (k + 1) n) : tGo x p (r :: m) k n ≤ tGo x q (r :: m) k n := by
    have hr := hm r (by simp)
    have hm' : ∀ y ∈ m, Rn y := fun y hy => hm y (by simp [hy])
    have ⟨hs, hw⟩ := rnIn hr hx k
    have e1 := hr.slo
    have e3 := hr.wlo
    have hd := hc.1
    have hne := hr.ne
    by_cases c : p = r.From
    · rw [show tGo x p (r :: m) k n = n by rw [tGo, if_pos c]]
      exact t_ge hx hq (r :: m) k n hm hfq
    · have d1 := dst_le hr.frm hp
      have d2 := dst_le hr.frm hr.to
      have dirs : (r.From < r.To ∧ r.From < p ∧ p ≤ q ∧ dir = true) ∨ (r.To < r.From ∧ p < r.From ∧ q ≤ p ∧ dir = false) := by
        cases dir with
        | true =>
          have := of_decide_eq_true hd
          simp only [bef, if_true] at h1 hpq
          exact Or.inl ⟨this, by omega, hpq, rfl⟩
        | false =>
          have := of_decide_eq_false hd
          simp only [bef, Bool.false_eq_true, if_false] at h1 hpq
          exact Or.inr ⟨by omega, by omega, hpq, rfl⟩
      have cq : q ≠ r.From := by omega
      have fq : ¬ inB q (minmax false r.From r.To) (minmax true r.From r.To) = true → found q m := fun c2 => by
        rcases hfq with h | h | h
        · exact absurd h cq
        · exact absurd h c2
        · exact h
      rw [tGo, tGo, if_neg c, if_neg cq]
      by_cases cp2 : inB p (minmax false r.From r.To) (minmax true r.From r.To) = true
      · rw [if_pos cp2]
        by_cases cq2 : inB q (minmax false r.From r.To) (minmax true r.From r.To) = true
        · rw [if_pos cq2]
          have hdd : dst r.From p ≤ dst r.From q := by
            simp only [dst, minmax, if_true]
            split <;> split <;> omega
          have := up_mono (s := pickV r.Speed (partV x.Speeds k)) (s' := pickV r.Speed (partV x.Speeds k)) d1.1 hdd (by omega) (Int.le_refl _)
          omega
        · rw [if_neg cq2]
          have hdd : dst r.From p ≤ dst r.From r.To := by
            have cp2 := inB_iff.1 cp2
            rcases dirs with ⟨a, b, _, _⟩ | ⟨a, b, _, _⟩
            · obtain ⟨m1, m2, _, _⟩ := mm_lt a
              simp only [dst, minmax, if_true]
              split <;> split <;> omega
            · obtain ⟨_, _, m1, m2⟩ := mm_lt a
              simp only [dst, minmax, if_true]
              split <;> split <;> omega
          have := up_mono (s := pickV r.Speed (partV x.Speeds k)) (s' := pickV r.Speed (partV x.Speeds k)) d1.1 hdd (by omega) (Int.le_refl _)
          have := t_ge hx hq m (k + 1) (n + pickV r.Wait (partV x.Wait k) + upM (dst r.From r.To) (pickV r.Speed (partV x.Speeds k))) hm' (fq cq2)
          omega
      · have cq2 : ¬ inB q (minmax false r.From r.To) (minmax true r.From r.To) = true := by
          rw [inB_iff] at cp2 ⊢
          rcases dirs with ⟨a, b, e, _⟩ | ⟨a, b, e, _⟩
          · obtain ⟨m1, m2, _, _⟩ := mm_lt a
            omega
          · obtain ⟨_, _, m1, m2⟩ := mm_lt a
            omega
        rw [if_neg cp2, if_neg cq2]
        have fp : found p m := by
          rcases hfp with h | h | h
          · exact absurd h c
          · exact absurd h cp2
          · exact h
        cases m with
        | nil => exact fp.elim
        | cons y m' =>
          refine ih y m' rfl _ ?_ fp (fq cq2)
          have hj := hc.2.1 y m' rfl
          rw [hj]
          rw [inB_iff] at cp2
          rcases dirs with ⟨a, b, e, rfl⟩ | ⟨a, b, e, rfl⟩
          · obtain ⟨m1, m2, _, _⟩ := mm_lt a
            simp only [bef, if_true]
            omega
          · obtain ⟨_, _, m1, m2⟩ := mm_lt a
            simp only [bef, Bool.false_eq_true, if_false]
            omega
theorem chain_of {v : TVoyage} (hv : Vy v) : ∀ (m : List TRun) (k : Nat), v.Runs.drop k = m → (m ≠ [] → dn (runD v.Runs k) = dn (runD v.Runs 0)) → chain (dn (runD v.Runs 0)) m ∧ (m ≠ [] → lastTo m = (runD v.Runs (v.Runs.length - 1)).To)
  | [], _, _, _ => ⟨trivial, fun h => absurd rfl h⟩
  | r :: m, k, h, hk => by
    obtain ⟨hk1, hg, hd⟩ := drop_cons h
    have hk := hk (by simp)
    have hg' : runD v.Runs k = r := by rw [← runD_get hk1, hg]
    have ih := chain_of hv m (k + 1) hd (fun hne => by
      have : k + 1 < v.Runs.length := by
        cases m with
        | nil => exact absurd rfl hne
        | cons y m' => exact (drop_cons hd).1
      rw [hv.dirs k this, hk])
    refine ⟨⟨by rw [← hg', hk], fun y m' hy => ?_, ih.1⟩, fun _ => ?_⟩
    · subst hy
      obtain ⟨hk2, hg2, _⟩ := drop_cons hd
      have := hv.join k hk2
      rw [← runD_get hk2, hg2, hg'] at this
      exact this
    · cases m with
      | nil =>
        have := drop_nil hd
        rw [lastTo, if_pos rfl, show v.Runs.length - 1 = k by omega, hg']
      | cons y m' =>
        rw [lastTo, if_neg (by simp)]
        exact ih.2 (by simp)
set_option maxHeartbeats 4000000

theorem tail_wr {v : TVoyage} (hv : Vy v) : wr (Int.tdiv (wr (v.Length + 99)) 100) = tl v := by
  have hl := hv.len
  have ht := tl_in hv
  rw [wr_in (n := v.Length + 99) (by omega) (by omega), Int.tdiv_eq_ediv_of_nonneg (by omega)]
  unfold tl
  rw [hi_alt (by decide), wr_in (by omega) (by omega)]
  congr 1
  omega
theorem dn_not {r : TRun} (h : Rn r) : decide (r.To < r.From) = !dn r := by
  have := h.ne
  unfold dn
  rw [Bool.eq_iff_iff]
  simp only [Bool.not_eq_true', decide_eq_true_eq, decide_eq_false_iff_not]
  omega
def within (b : TBounds) (t : Int) : Prop := b.Low ≤ t ∧ t ≤ b.High
theorem sound_eq (v : TVoyage) : ∃ b, F_thalweglaw03_sound v = some b ∧ (b = true → voyV v = true ∧ v.Runs.length ≤ 25) := by
  simp only [F_thalweglaw03_sound]
  by_cases c1 : (v.Runs.length : Int) ≥ 1
  · rw [decide_eq_true c1]
    by_cases c2 : (v.Runs.length : Int) ≤ 25
    · rw [decide_eq_true c2]
      simp only [cond_true, copiedV_eq (show v.Runs.length ≤ 1000 by omega), Option.bind_some, Check_eq]
      refine ⟨_, rfl, fun h => ?_⟩
      cases hv : voyV v with
      | true => exact ⟨rfl, by omega⟩
      | false => rw [hv] at h; cases h
    · rw [decide_eq_false c2]
      exact ⟨false, rfl, fun h => by cases h⟩
  · rw [decide_eq_false c1]
    exact ⟨false, rfl, fun h => by cases h⟩
end Go.Ev
/- Chapter 3: the law of the earliest and the latest voyage. -/
set_option linter.unusedVariables false
set_option linter.unusedSimpArgs false
namespace Go.Ev
set_option maxHeartbeats 2000000

theorem setE {α : Type} {l : List α} {k : Nat} (h : k < l.length) (y : α) : set? l (k : Int) y = some (l.set k y) := by
  unfold set?
  rw [if_pos (by omega)]
  simp
/-- Runs with one speed and one wait. -/
def eR (x : TRun) : TRun := ⟨x.From, x.To, ⟨x.Speed.High, x.Speed.High⟩, ⟨x.Wait.Low, x.Wait.Low⟩⟩
def lR (x : TRun) : TRun := ⟨x.From, x.To, ⟨x.Speed.Low, x.Speed.Low⟩, ⟨x.Wait.High, x.Wait.High⟩⟩
def mixL (f : TRun → TRun) (l : List TRun) (k : Nat) : List TRun := (l.take k).map f ++ l.drop k
theorem mix_len (f : TRun → TRun) (l : List TRun) (k : Nat) : (mixL f l k).length = l.length := by
  simp only [mixL, List.length_append, List.length_map, List.length_take, List.length_drop]; omega
theorem mix_get {f : TRun → TRun} {l : List TRun} {k : Nat} (h : k < l.length) : (mixL f l k)[k]'(by rw [mix_len]; exact h) = l[k] := by
  simp only [mixL]
  rw [List.getElem_append_right (by simp; omega)]
  simp [Nat.min_eq_left (Nat.le_of_lt h)]
theorem mix_set {f : TRun → TRun} {l : List TRun} {k : Nat} (h : k < l.length) : (mixL f l k).set k (f l[k]) = mixL f l (k + 1) := by
  have hlen : ((l.take k).map f).length = k := by simp; omega
  simp only [mixL]
  rw [List.set_append_right _ _ (by omega), hlen, Nat.sub_self, List.drop_eq_getElem_cons h, List.set_cons_zero, List.take_succ_eq_append_getElem h, List.map_append, List.append_assoc]
  rfl
theorem mix_all (f : TRun → TRun) (l : List TRun) : mixL f l l.length = l.map f := by simp [mixL]
theorem mix_none (f : TRun → TRun) (l : List TRun) : mixL f l 0 = l := by simp [mixL]

theorem ends_loop {v : TVoyage} (hn : v.Runs.length ≤ 20) (x3 x4 : TRun) (a1 : Int) (y6 : TBounds × Int) (y9 y10 : TBounds) (y7 y8 : TVoyage) :
    loopC (L_thalweglaw03_TowEnds_1 x3 x4 a1 y6 v y9 y7 y10 y8).step (0, v.Runs, v.Runs) = some (v.Runs.map eR, v.Runs.map lR) := by
  have := loop_run (step := (L_thalweglaw03_TowEnds_1 x3 x4 a1 y6 v y9 y7 y10 y8).step) (fun k : Nat => ((k : Int), mixL eR v.Runs k, mixL lR v.Runs k)) v.Runs.length (e := (v.Runs.map eR, v.Runs.map lR))
    (fun k hk => by
      have h1 : k < (mixL eR v.Runs k).length := by rw [mix_len]; exact hk
      have h2 : k < (mixL lR v.Runs k).length := by rw [mix_len]; exact hk
      simp only [L_thalweglaw03_TowEnds_1, Int.ofNat_lt, hk, decide_true, cond_true, idx?_nat hk, Option.bind_some, F_thalweglaw03_exact, idx?_nat h1, setE h1, mix_get hk, idx?_nat h2, setE h2]
      rw [idx?_nat (by simpa using h1)]
      simp only [Option.bind_some]
      rw [setE (by simpa using h1)]
      simp only [Option.bind_some]
      rw [idx?_nat (by simpa using h2)]
      simp only [Option.bind_some]
      rw [setE (by simpa using h2)]
      simp only [Option.bind_some, List.set_set, List.getElem_set_self, wr_nat (show k < 9223372036854775807 by omega)]
      rw [← mix_set (f := eR) hk, ← mix_set (f := lR) hk]
      rfl)
    (by simp only [L_thalweglaw03_TowEnds_1, Int.lt_irrefl, decide_false, cond_false, mix_all])
  simpa [mix_none] using this

theorem a_e (p : Int) : ∀ (m : List TRun) (lo hi : Int), aGo p (m.map eR) lo lo = ((aGo p m lo hi).1, (aGo p m lo hi).1)
  | [], _, _ => rfl
  | x :: m, lo, hi => by
    simp only [List.map_cons, aGo]
    rw [show (eR x).From = x.From from rfl, show (eR x).To = x.To from rfl, show ∀ q, untilB (eR x) q = ⟨(untilB x q).Low, (untilB x q).Low⟩ from fun q => rfl]
    split
    · rfl
    · split
      · rfl
      · exact a_e p m _ _
theorem a_l (p : Int) : ∀ (m : List TRun) (lo hi : Int), aGo p (m.map lR) hi hi = ((aGo p m lo hi).2, (aGo p m lo hi).2)
  | [], _, _ => rfl
  | x :: m, lo, hi => by
    simp only [List.map_cons, aGo]
    rw [show (lR x).From = x.From from rfl, show (lR x).To = x.To from rfl, show ∀ q, untilB (lR x) q = ⟨(untilB x q).High, (untilB x q).High⟩ from fun q => rfl]
    split
    · rfl
    · split
      · rfl
      · exact a_l p m _ _

def eV (v : TVoyage) : TVoyage := ⟨⟨v.Start.Low, v.Start.Low⟩, v.Runs.map eR, v.Length, v.Width⟩
def lV (v : TVoyage) : TVoyage := ⟨⟨v.Start.High, v.Start.High⟩, v.Runs.map lR, v.Length, v.Width⟩
theorem runD_map {f : TRun → TRun} {l : List TRun} {k : Nat} (h : k < l.length) : runD (l.map f) k = f (runD l k) := by
  rw [← runD_get (by simpa using h), ← runD_get h, List.getElem_map]
theorem jOk_map {f : TRun → TRun} (h1 : ∀ x, (f x).From = x.From) (h2 : ∀ x, (f x).To = x.To) (l : List TRun) : jOk (l.map f) = jOk l := by
  simp only [jOk, List.length_map]
  rw [Bool.eq_iff_iff]
  simp only [List.all_eq_true, List.mem_range]
  refine ⟨fun h k hk => ?_, fun h k hk => ?_⟩
  · have := h k hk
    simpa only [jP, runD_map (f := f) (show k + 1 < l.length by omega), runD_map (f := f) (show k + 1 - 1 < l.length by omega), h1, h2, dn] using this
  · have := h k hk
    simpa only [jP, runD_map (f := f) (show k + 1 < l.length by omega), runD_map (f := f) (show k + 1 - 1 < l.length by omega), h1, h2, dn] using this
theorem valid_e {v : TVoyage} (h : voyV v = true) : voyV (eV v) = true ∧ voyV (lV v) = true := by
  have hv := vy_of h
  have hs := hv.start
  simp only [voyV, Bool.and_eq_true, List.all_eq_true] at h ⊢
  obtain ⟨h1, h2, h3, h4, h5, h6⟩ := h
  have run : ∀ x ∈ v.Runs, runV (eR x) = true ∧ runV (lR x) = true := by
    intro x hx
    have hr := hv.each x hx
    have e1 := hr.frm; have e2 := hr.to; have e3 := hr.ne; have e4 := hr.slo; have e5 := hr.shi; have e6 := hr.wlo; have e7 := hr.whi
    simp only [runV, vB, eR, lR, Bool.and_eq_true, inB_iff, decide_eq_true_eq, bne_iff_ne, ne_eq, Int.le_refl, decide_true, true_and]
    omega
  refine ⟨⟨?_, ?_, h3, h4, ?_, ?_⟩, ?_, ?_, h3, h4, ?_, ?_⟩
  · simp only [vB, eV, Bool.and_eq_true, inB_iff, Int.le_refl, decide_true, true_and]; omega
  · simpa [eV] using h2
  · intro y hy
    obtain ⟨x, hx, rfl⟩ := List.mem_map.1 hy
    exact (run x hx).1
  · simp only [eV]; rw [jOk_map (f := eR) (fun _ => rfl) (fun _ => rfl)]; exact h6
  · simp only [vB, lV, Bool.and_eq_true, inB_iff, Int.le_refl, decide_true, true_and]; omega
  · simpa [lV] using h2
  · intro y hy
    obtain ⟨x, hx, rfl⟩ := List.mem_map.1 hy
    exact (run x hx).2
  · simp only [lV]; rw [jOk_map (f := lR) (fun _ => rfl) (fun _ => rfl)]; exact h6
theorem arr_e (v : TVoyage) (p : Int) : arrB (eV v) p = ⟨(arrB v p).Low, (arrB v p).Low⟩ := by
  simp only [arrB, eV]; rw [a_e p v.Runs v.Start.Low v.Start.High]
theorem arr_l (v : TVoyage) (p : Int) : arrB (lV v) p = ⟨(arrB v p).High, (arrB v p).High⟩ := by
  simp only [arrB, lV]; rw [a_l p v.Runs v.Start.Low v.Start.High]
theorem ends_map {v w : TVoyage} {f : TRun → TRun} (h1 : ∀ x, (f x).From = x.From) (h2 : ∀ x, (f x).To = x.To) (hw : w.Runs = v.Runs.map f) (hn : 1 ≤ v.Runs.length) : endsOf w = endsOf v := by
  simp only [endsOf, hw, List.length_map]
  rw [runD_map (by omega), runD_map (by omega), h1, h2]

theorem chain_ends (dir : Bool) : ∀ (r : TRun) (m : List TRun), (∀ y ∈ r :: m, Rn y) → chain dir (r :: m) → if dir then r.From < lastTo (r :: m) else lastTo (r :: m) < r.From
  | r, [], hm, hc => by
    have hd := hc.1
    have hne := (hm r (by simp)).ne
    simp only [lastTo, if_true]
    cases dir with
    | true => simpa using of_decide_eq_true hd
    | false => have := of_decide_eq_false hd; simp; omega
  | r, y :: m, hm, hc => by
    have hd := hc.1
    have hj := hc.2.1 y m rfl
    have hne := (hm r (by simp)).ne
    have ih := chain_ends dir y m (fun z hz => hm z (by simp only [List.mem_cons] at hz ⊢; exact Or.inr hz)) hc.2.2
    rw [show lastTo (r :: y :: m) = lastTo (y :: m) by rw [lastTo, if_neg (by simp)]]
    rw [hj] at ih
    cases dir with
    | true => have := of_decide_eq_true hd; simp at ih ⊢; omega
    | false => have := of_decide_eq_false hd; simp at ih ⊢; omega

/-- A voyage's runs, one after the other. -/
theorem voy_chain {v : TVoyage} (hv : Vy v) : ∃ r m, v.Runs = r :: m ∧ (∀ y ∈ r :: m, Rn y) ∧ chain (dn r) (r :: m) ∧ r.From = (endsOf v).1 ∧ lastTo (r :: m) = (endsOf v).2 := by
  have hn := hv.runs
  cases hm : v.Runs with
  | nil => rw [hm] at hn; simp at hn
  | cons r m =>
    obtain ⟨h1, h2⟩ := chain_of hv (r :: m) 0 (by rw [hm]; rfl) (fun _ => rfl)
    have e : runD v.Runs 0 = r := by rw [hm]; rfl
    rw [e] at h1
    exact ⟨r, m, rfl, by rw [← hm]; exact hv.each, h1, by simp only [endsOf, e], by rw [h2 (by simp)]; rfl⟩

theorem tr0 : Tr ⟨0, [], []⟩ := ⟨by simp, by simp, by simp⟩
/-- At a place of the way. -/
theorem on_found {v : TVoyage} (hv : Vy v) {p : Int} (ho : onW v p = true) : found p v.Runs := by
  obtain ⟨r, m, hm, hr, hc, h1, h2⟩ := voy_chain hv
  have hs := chain_ends _ r m hr hc
  rw [hm]
  have ho := inB_iff.1 ho
  rw [← h1, ← h2] at ho
  refine found_of (dn r) r m hr hc ?_ ?_
  · cases hd : dn r with
    | true =>
      rw [hd] at hs; simp at hs
      obtain ⟨m1, m2, _, _⟩ := mm_lt hs
      simp only [bef, if_true]; omega
    | false =>
      rw [hd] at hs; simp at hs
      obtain ⟨_, _, m1, m2⟩ := mm_lt hs
      simp only [bef, Bool.false_eq_true, if_false]; omega
  · cases hd : dn r with
    | true =>
      rw [hd] at hs; simp at hs
      obtain ⟨m1, m2, _, _⟩ := mm_lt hs
      simp only [bef, if_true]; omega
    | false =>
      rw [hd] at hs; simp at hs
      obtain ⟨_, _, m1, m2⟩ := mm_lt hs
      simp only [bef, Bool.false_eq_true, if_false]; omega
theorem arr_le {v : TVoyage} (hv : Vy v) {p : Int} (ho : onW v p = true) : (arrB v p).Low ≤ (arrB v p).High := by
  have := t_bounds tr0 (onW_in hv ho) v.Runs 0 v.Start.Low v.Start.Low v.Start.High hv.each (on_found hv ho) (Int.le_refl _) hv.sle
  simp only [arrB]; omega
theorem arr_ge {v : TVoyage} (h : voyV v = true) {p : Int} (ho : onW v p = true) : v.Start.Low ≤ (arrB v p).Low := by
  have he := vy_of (valid_e h).1
  have hv := vy_of h
  have ho' : onW (eV v) p = true := by unfold onW; rw [ends_map (v := v) (f := eR) (fun _ => rfl) (fun _ => rfl) rfl hv.runs.1]; exact ho
  have h1 := t_ge tr0 (onW_in hv ho) (eV v).Runs 0 v.Start.Low he.each (on_found he ho')
  have h2 := (t_bounds tr0 (onW_in hv ho) (eV v).Runs 0 v.Start.Low v.Start.Low v.Start.Low he.each (on_found he ho') (Int.le_refl _) (Int.le_refl _)).2
  have h3 := a_e p v.Runs v.Start.Low v.Start.High
  simp only [eV] at h1 h2
  rw [h3] at h2
  simp only [arrB]; simp only at h2; omega
/-- One that keeps to one speed: later at a later place. -/
theorem exact_mono {w : TVoyage} (hw : Vy w) (hx : ∀ q, (arrB w q).Low = (arrB w q).High) (hs : w.Start.Low = w.Start.High) {p q : Int} (hp : onW w p = true) (hq : onW w q = true)
    (hb : ∀ dir, (if dir = true then (endsOf w).1 < (endsOf w).2 else (endsOf w).2 < (endsOf w).1) → bef dir p q) : (arrB w p).Low ≤ (arrB w q).Low := by
  obtain ⟨r, m, hm, hr, hc, h1, h2⟩ := voy_chain hw
  have hse := chain_ends _ r m hr hc
  rw [h1, h2] at hse
  have hfp := on_found hw hp
  have hfq := on_found hw hq
  rw [hm] at hfp hfq
  have key := t_mono (dn r) tr0 (onW_in hw hp) (onW_in hw hq) (hb (dn r) (by cases hd : dn r <;> rw [hd] at hse <;> simpa using hse)) r m 0 w.Start.Low hr hc (by
    have ho := inB_iff.1 hp
    rw [h1]
    cases hd : dn r with
    | true =>
      rw [hd] at hse; simp at hse
      obtain ⟨m1, m2, _, _⟩ := mm_lt hse
      simp only [bef, if_true]; omega
    | false =>
      rw [hd] at hse; simp at hse
      obtain ⟨_, _, m1, m2⟩ := mm_lt hse
      simp only [bef, Bool.false_eq_true, if_false]; omega) hfp hfq
  have b1 := t_bounds tr0 (onW_in hw hp) (r :: m) 0 w.Start.Low w.Start.Low w.Start.High hr hfp (Int.le_refl _) (by omega)
  have b2 := t_bounds tr0 (onW_in hw hq) (r :: m) 0 w.Start.Low w.Start.Low w.Start.High hr hfq (Int.le_refl _) (by omega)
  have x1 := hx p
  have x2 := hx q
  simp only [arrB, hm] at x1 x2 ⊢
  omega
theorem both_mono {v : TVoyage} (h : voyV v = true) {p q : Int} (hp : onW v p = true) (hq : onW v q = true)
    (hb : ∀ dir, (if dir = true then (endsOf v).1 < (endsOf v).2 else (endsOf v).2 < (endsOf v).1) → bef dir p q) : (arrB v p).Low ≤ (arrB v q).Low ∧ (arrB v p).High ≤ (arrB v q).High := by
  have hv := vy_of h
  obtain ⟨ve, vl⟩ := valid_e h
  have e1 := ends_map (v := v) (w := eV v) (f := eR) (fun _ => rfl) (fun _ => rfl) rfl hv.runs.1
  have e2 := ends_map (v := v) (w := lV v) (f := lR) (fun _ => rfl) (fun _ => rfl) rfl hv.runs.1
  have k1 := exact_mono (vy_of ve) (fun q => by rw [arr_e]) rfl (p := p) (q := q) (by unfold onW; rw [e1]; exact hp) (by unfold onW; rw [e1]; exact hq) (by rw [e1]; exact hb)
  have k2 := exact_mono (vy_of vl) (fun q => by rw [arr_l]) rfl (p := p) (q := q) (by unfold onW; rw [e2]; exact hp) (by unfold onW; rw [e2]; exact hq) (by rw [e2]; exact hb)
  rw [arr_e, arr_e] at k1
  rw [arr_l, arr_l] at k2
  exact ⟨k1, k2⟩
theorem ends_ne {v : TVoyage} (hv : Vy v) : (endsOf v).1 ≠ (endsOf v).2 := by
  obtain ⟨r, m, hm, hr, hc, h1, h2⟩ := voy_chain hv
  have hs := chain_ends _ r m hr hc
  rw [h1, h2] at hs
  cases hd : dn r <;> rw [hd] at hs <;> simp at hs <;> omega
end Go.Ev
/- Chapter 3: the law of the earliest and the latest voyage: true. -/
set_option linter.unusedVariables false
set_option linter.unusedSimpArgs false
namespace Go.Ev
set_option maxHeartbeats 2000000
theorem ends_core {v : TVoyage} {a1 D s t u p : Int} (h : voyV v = true) (hl : v.Runs.length ≤ 25) (E0 : F_thalweglaw03_sound v = some true) (hD : 1 ≤ D) (hD2 : D ≤ 100000)
    (E1 : wr ((endsOf v).1 - (endsOf v).2) = (endsOf v).1 - (endsOf v).2) (E2 : wr ((endsOf v).2 - (endsOf v).1) = (endsOf v).2 - (endsOf v).1) (E3 : minmax true ((endsOf v).1 - (endsOf v).2) ((endsOf v).2 - (endsOf v).1) = D)
    (E4 : wr (Int.tdiv ((endsOf v).2 - (endsOf v).1) D) = s) (E5 : wr a1 = a1) (E6 : wr (D + 1) = D + 1) (E7 : Int.tmod a1 (D + 1) = t) (E8 : wr (s * t) = u) (E9 : wr ((endsOf v).1 + u) = p) (E10 : wr (p + s) = p + s)
    (E11 : wr ((endsOf v).1 - s) = (endsOf v).1 - s) (E12 : wr ((endsOf v).2 + s) = (endsOf v).2 + s) (hp : onW v p = true) (hq : p ≠ (endsOf v).2 → onW v (p + s) = true)
    (ho1 : onW v ((endsOf v).1 - s) = false) (ho2 : onW v ((endsOf v).2 + s) = false) (hb : ∀ dir, (if dir = true then (endsOf v).1 < (endsOf v).2 else (endsOf v).2 < (endsOf v).1) → bef dir p (p + s)) :
    F_thalweglaw03_TowEnds (v, a1) = some true := by
  have hv := vy_of h
  have hn := hv.runs
  have h0 : 0 < v.Runs.length := by omega
  have h1 : v.Runs.length - 1 < v.Runs.length := by omega
  have hz : idx? v.Runs 0 = some v.Runs[0] := idx?_nat (k := 0) h0
  have e : wr ((v.Runs.length : Int) - 1) = ((v.Runs.length - 1 : Nat) : Int) := by rw [wr_in (by omega) (by omega)]; omega
  have ea : v.Runs[0].From = (endsOf v).1 := by simp only [endsOf, runD_get h0]
  have eb : v.Runs[v.Runs.length - 1].To = (endsOf v).2 := by simp only [endsOf, runD_get h1]
  obtain ⟨ve, vl⟩ := valid_e h
  have k1 := ends_map (v := v) (w := eV v) (f := eR) (fun _ => rfl) (fun _ => rfl) rfl hv.runs.1
  have k2 := ends_map (v := v) (w := lV v) (f := lR) (fun _ => rfl) (fun _ => rfl) rfl hv.runs.1
  have op1 : onW (eV v) p = true := by unfold onW; rw [k1]; exact hp
  have op2 : onW (lV v) p = true := by unfold onW; rw [k2]; exact hp
  have hE : ∀ a b, (⟨⟨v.Start.Low, v.Start.Low⟩, v.Runs.map eR, a, b⟩ : TVoyage) = ⟨⟨v.Start.Low, v.Start.Low⟩, v.Runs.map eR, a, b⟩ := fun _ _ => rfl
  have A1 : F_tow_Arrive ((⟨⟨v.Start.Low, v.Start.Low⟩, v.Runs.map eR, v.Length, v.Width⟩ : TVoyage), p) = some (⟨(arrB v p).Low, (arrB v p).Low⟩, 0) := by
    show F_tow_Arrive (eV v, p) = _
    rw [Arrive_eq, ve, op1, arr_e]; rfl
  have A2 : F_tow_Arrive ((⟨⟨v.Start.High, v.Start.High⟩, v.Runs.map lR, v.Length, v.Width⟩ : TVoyage), p) = some (⟨(arrB v p).High, (arrB v p).High⟩, 0) := by
    show F_tow_Arrive (lV v, p) = _
    rw [Arrive_eq, vl, op2, arr_l]; rfl
  have A0 : F_tow_Arrive (v, p) = some (arrB v p, 0) := by rw [Arrive_eq, h, hp]; rfl
  have A3 : F_tow_Arrive (v, (endsOf v).1 - s) = some (⟨0, 0⟩, 7) := by rw [Arrive_eq, h, ho1]; rfl
  have A4 : F_tow_Arrive (v, (endsOf v).2 + s) = some (⟨0, 0⟩, 7) := by rw [Arrive_eq, h, ho2]; rfl
  have hle := arr_le hv hp
  have hge := arr_ge h hp
  have hlen : v.Runs.length ≤ 1000 := by omega
  simp only [F_thalweglaw03_TowEnds, E0, Option.bind_some, Bool.not_true, cond_false, hz, e, idx?_nat h1, ea, eb, E1, E2, E3, decide_eq_false (show ¬ D < 1 by omega), nz_of (show D ≠ 0 by omega), E6, nz_of (show D + 1 ≠ 0 by omega), copiedV_eq hlen, E4, E5, E7, E8, E9, A0,
    F_thalweglaw03_exact, ends_loop hn.2, A1, A2, bne_self_eq_false, beq_self_eq_true, Bool.and_self, decide_eq_false (show ¬ (arrB v p).Low > (arrB v p).High by omega), decide_eq_false (show ¬ (arrB v p).Low < v.Start.Low by omega)]
  by_cases c : p = (endsOf v).2
  · rw [show (p != (endsOf v).2) = false from by simpa using c]
    simp only [cond_false, E11, E12, A3, A4, Option.bind_some, knownT_eq]
    rfl
  · have hq' := hq c
    obtain ⟨m1, m2⟩ := both_mono h hp hq' hb
    have A5 : F_tow_Arrive (v, p + s) = some (arrB v (p + s), 0) := by rw [Arrive_eq, h, hq']; rfl
    rw [show (p != (endsOf v).2) = true from by simpa using c]
    simp only [cond_true, E10, A5, Option.bind_some, bne_self_eq_false, cond_false, decide_eq_false (show ¬ (arrB v (p + s)).Low < (arrB v p).Low by omega), decide_eq_false (show ¬ (arrB v (p + s)).High < (arrB v p).High by omega), E11, E12, A3, A4, knownT_eq]
    rfl

theorem ends_true {v : TVoyage} {a1 : Int} (ha : 0 ≤ a1 ∧ a1 ≤ 65535) : F_thalweglaw03_TowEnds (v, a1) = some true := by
  obtain ⟨b, e0, k0⟩ := sound_eq v
  cases b with
  | false => simp only [F_thalweglaw03_TowEnds, knownT_eq, e0, Option.bind_some]; rfl
  | true =>
    obtain ⟨h, hl⟩ := k0 rfl
    have hv := vy_of h
    obtain ⟨ia, ib⟩ := ends_in hv
    have hne := ends_ne hv
    have on : ∀ n, onW v n = true ↔ ((endsOf v).1 ≤ n ∧ n ≤ (endsOf v).2) ∨ ((endsOf v).2 ≤ n ∧ n ≤ (endsOf v).1) := by
      intro n
      unfold onW
      rw [inB_iff]
      simp only [minmax, if_true, Bool.false_eq_true, if_false]
      split <;> split <;> omega
    have off : ∀ n, onW v n = false ↔ ¬ (((endsOf v).1 ≤ n ∧ n ≤ (endsOf v).2) ∨ ((endsOf v).2 ≤ n ∧ n ≤ (endsOf v).1)) := by
      intro n
      rw [← on, Bool.not_eq_true]
    by_cases c : (endsOf v).1 < (endsOf v).2
    · have t0 := Int.tmod_nonneg ((endsOf v).2 - (endsOf v).1 + 1) ha.1
      have t1 := Int.tmod_lt_of_pos a1 (show 0 < (endsOf v).2 - (endsOf v).1 + 1 by omega)
      refine ends_core (D := (endsOf v).2 - (endsOf v).1) (s := 1) (t := Int.tmod a1 ((endsOf v).2 - (endsOf v).1 + 1)) (u := Int.tmod a1 ((endsOf v).2 - (endsOf v).1 + 1)) (p := (endsOf v).1 + Int.tmod a1 ((endsOf v).2 - (endsOf v).1 + 1)) h hl e0 (by omega) (by omega)
        (wr_in (by omega) (by omega)) (wr_in (by omega) (by omega)) (mm_lt (show (endsOf v).1 - (endsOf v).2 < (endsOf v).2 - (endsOf v).1 by omega)).2.1 (by rw [Int.tdiv_self (by omega)]; rfl) (wr_in (by omega) (by omega)) (wr_in (by omega) (by omega)) rfl (by rw [Int.one_mul, wr_in (by omega) (by omega)])
        (wr_in (by omega) (by omega)) (wr_in (by omega) (by omega)) (wr_in (by omega) (by omega)) (wr_in (by omega) (by omega)) ((on _).2 (by omega)) (fun hc => (on _).2 (by omega)) ((off _).2 (by omega)) ((off _).2 (by omega)) (fun dir hd => ?_)
      cases dir with
      | true => simp only [bef, if_true]; omega
      | false => simp at hd; omega
    · have t0 := Int.tmod_nonneg ((endsOf v).1 - (endsOf v).2 + 1) ha.1
      have t1 := Int.tmod_lt_of_pos a1 (show 0 < (endsOf v).1 - (endsOf v).2 + 1 by omega)
      refine ends_core (D := (endsOf v).1 - (endsOf v).2) (s := -1) (t := Int.tmod a1 ((endsOf v).1 - (endsOf v).2 + 1)) (u := -Int.tmod a1 ((endsOf v).1 - (endsOf v).2 + 1)) (p := (endsOf v).1 + -Int.tmod a1 ((endsOf v).1 - (endsOf v).2 + 1)) h hl e0 (by omega) (by omega)
        (wr_in (by omega) (by omega)) (wr_in (by omega) (by omega)) (mm_lt (show (endsOf v).2 - (endsOf v).1 < (endsOf v).1 - (endsOf v).2 by omega)).2.2.2 (by rw [show (endsOf v).2 - (endsOf v).1 = -((endsOf v).1 - (endsOf v).2) by omega, Int.neg_tdiv, Int.tdiv_self (by omega)]; rfl) (wr_in (by omega) (by omega)) (wr_in (by omega) (by omega)) rfl (by rw [Int.neg_mul, Int.one_mul, wr_in (by omega) (by omega)])
        (wr_in (by omega) (by omega)) (wr_in (by omega) (by omega)) (wr_in (by omega) (by omega)) (wr_in (by omega) (by omega)) ((on _).2 (by omega)) (fun hc => (on _).2 (by omega)) ((off _).2 (by omega)) ((off _).2 (by omega)) (fun dir hd => ?_)
      cases dir with
      | true => simp at hd; omega
      | false => simp only [bef, Bool.false_eq_true, if_false]; omega
end Go.Ev
/- The law on ends, by what is known of its arguments. -/
set_option linter.unusedVariables false
namespace Go.Ev
theorem u16_in {i : Int} (h : kIu16 i) : 0 ≤ i ∧ i ≤ 65535 := by
  simpa [kIu16, IntKind.min, IntKind.max, IntKind.bits, IntKind.signed] using h
theorem ends_law {v : TVoyage} {a1 : Int} (h1 : kTVoyage v) (h2 : kIu16 a1) : F_thalweglaw03_TowEnds (v, a1) = some true := ends_true (u16_in h2)
end Go.Ev
