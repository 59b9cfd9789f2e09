/- A part of the proof of TowConflicts. -/
import Derived.Test.YtignohgoodffbacW10
/- Mathematics of earlier texts, as far as this text's functions go. -/
set_option linter.unusedVariables false
set_option linter.unusedSimpArgs false
namespace Go.Ev
set_option maxHeartbeats 2000000
theorem every_int {l : List Int} {p : Int → Option Bool} {q : Int → Bool} {g : FuncId} {caps : List V} (hp : ∀ x ∈ l, p x = some (q x)) (hl : l.length ≤ 4611686018427387904) : F_numbers_Every_int (l, p, g, caps) = some (l.all q) := by
  unfold F_numbers_Every_int
  simp only
  rw [show (0 : Int) = ((0 : Nat) : Int) from rfl, loop_list l (fun k => (k : Int)) q (e := .inl ()) (f := .inr false)]
  · cases l.all q <;> rfl
  · intro k hk
    simp only [L_numbers_Every_int_1, Int.ofNat_lt, hk, decide_true, cond_true, idx?_nat hk, Option.bind_some, hp _ (List.getElem_mem hk), wr_nat (show k < 9223372036854775807 by omega)]
    cases q l[k] <;> rfl
  · simp [L_numbers_Every_int_1]
theorem bif_and (a b : Bool) : (bif a then some b else some false) = some (a && b) := by cases a <;> rfl
theorem bif_not (a b : Bool) : (bif (!a) then some false else some b) = some (a && b) := by cases a <;> rfl

theorem within1_eq (n a b : Int) : F_numbers_Within_1 (n, a, b) = some (inB n a b) := by
  simp only [F_numbers_Within_1, bif_and, inB]
theorem within_eq (a b : Int) (l : List Int) (hl : l.length ≤ 4611686018427387904) : F_numbers_Within (a, b, l) = some (l.all fun n => inB n a b) := by
  simp only [F_numbers_Within]
  rw [every_int (q := fun n => inB n a b) (fun x _ => within1_eq x a b) hl]
  rfl
theorem within1 (a b n : Int) : F_numbers_Within (a, b, [n]) = some (inB n a b) := by rw [within_eq _ _ _ (by simp)]; simp
theorem within2 (a b n m : Int) : F_numbers_Within (a, b, [n, m]) = some (inB n a b && inB m a b) := by rw [within_eq _ _ _ (by simp)]; simp
def vB (b : TBounds) (x y : Int) : Bool := decide (b.Low ≤ b.High) && (inB b.Low x y && inB b.High x y)
theorem valid_eq (b : TBounds) (x y : Int) : F_numbers_Valid (b, x, y) = some (vB b x y) := by
  simp only [F_numbers_Valid, within2, Option.bind_some, bif_and, vB]
theorem drop_cons {α : Type} {l m : List α} {k : Nat} {x : α} (h : l.drop k = x :: m) : ∃ hk : k < l.length, l[k] = x ∧ l.drop (k + 1) = m := by
  have hk : k < l.length := by
    rcases Nat.lt_or_ge k l.length with e | e
    · exact e
    · rw [List.drop_of_length_le e] at h; cases h
  rw [List.drop_eq_getElem_cons hk] at h
  cases h
  exact ⟨hk, rfl, rfl⟩
theorem drop_nil {α : Type} {l : List α} {k : Nat} (h : l.drop k = []) : l.length ≤ k := by
  have := congrArg List.length h
  simpa using Nat.le_of_sub_eq_zero (by simpa using this)

theorem tdiv_tmod {a b : Int} (hb : 0 < b) : b * a.tdiv b + a.tmod b = a ∧ -b < a.tmod b ∧ a.tmod b < b ∧ (0 ≤ a → 0 ≤ a.tmod b) ∧ (a ≤ 0 → a.tmod b ≤ 0) := by
  refine ⟨Int.mul_tdiv_add_tmod a b, ?_, ?_, ?_, ?_⟩
  · rcases Int.le_total 0 a with h | h
    · have := Int.tmod_nonneg b h; omega
    · have h1 := Int.tmod_nonneg b (a := -a) (by omega)
      have h2 := Int.tmod_lt_of_pos (-a) hb
      rw [Int.neg_tmod] at h1 h2; omega
  · exact Int.tmod_lt_of_pos a hb
  · exact fun h => Int.tmod_nonneg b h
  · intro h
    have h1 := Int.tmod_nonneg b (a := -a) (by omega)
    rw [Int.neg_tmod] at h1; omega
theorem tdiv_le {a b : Int} (hb : 0 < b) : -a.natAbs ≤ a.tdiv b ∧ a.tdiv b ≤ a.natAbs := by
  have h : (a.tdiv b).natAbs ≤ a.natAbs := by
    rw [Int.natAbs_tdiv]; exact Nat.div_le_self _ _
  omega
theorem div_of {a b q r : Int} (hb : 0 < b) (h : r + b * q = a) (h0 : 0 ≤ r) (h1 : r < b) : a / b = q := ((Int.ediv_emod_unique hb).2 ⟨h, h0, h1⟩).1

theorem Down_eq {a b : Int} (hb : 0 < b) (ha : a.natAbs ≤ 4611686018427387904) : F_numbers_Down (a, b) = some (a / b) := by
  obtain ⟨h1, h2, h3, h4, h5⟩ := tdiv_tmod (a := a) hb
  have h6 := tdiv_le (a := a) hb
  simp only [F_numbers_Down, nz_of (show b ≠ 0 by omega), Option.bind_some]
  rw [wr_in (n := a.tdiv b) (by omega) (by omega)]
  by_cases c : a.tmod b < 0
  · rw [wr_in (n := a.tdiv b - 1) (by omega) (by omega), div_of (q := a.tdiv b - 1) (r := a.tmod b + b) hb (by rw [Int.mul_sub]; omega) (by omega) (by omega)]
    simp [c]
  · rw [div_of (q := a.tdiv b) (r := a.tmod b) hb (by omega) (by omega) (by omega)]
    simp [c]
theorem div_bound {a b : Int} (hb : 0 < b) : -a.natAbs ≤ a / b ∧ a / b ≤ a.natAbs := by
  have := Int.natAbs_ediv_le_natAbs a b
  omega
theorem Up_eq {a b : Int} (hb : 0 < b) (ha : a.natAbs ≤ 4611686018427387904) : F_numbers_Up (a, b) = some (-((-a) / b)) := by
  have h := div_bound (a := -a) hb
  simp only [F_numbers_Up]
  rw [wr_in (n := 0 - a) (by omega) (by omega), show 0 - a = -a by omega, Down_eq hb (by omega)]
  simp only [Option.bind_some]
  rw [wr_in (by omega) (by omega)]
  simp
theorem loop_range {S E : Type} {step : S → Option (S ⊕ E)} (n : Nat) (st : Nat → S) (q : Nat → Bool) {e f : E} (h : ∀ k, k < n → step (st k) = some (if q k then .inl (st (k + 1)) else .inr f)) (he : step (st n) = some (.inr e)) :
    loopC step (st 0) = some (if (List.range n).all q then e else f) := by
  have := loop_list (List.range n) st q (e := e) (f := f) (step := step) (by intro k hk; simpa using h k (by simpa using hk)) (by simpa using he)
  exact this

theorem loop_range0 {E : Type} {step : Int → Option (Int ⊕ E)} (n : Nat) (q : Nat → Bool) {e f : E} (h : ∀ k : Nat, k < n → step (k : Int) = some (if q k then .inl ((k + 1 : Nat) : Int) else .inr f)) (he : step (n : Int) = some (.inr e)) : loopC step 0 = some (if (List.range n).all q then e else f) := loop_range n (fun k : Nat => (k : Int)) q h he
theorem loop_list0 {α E : Type} {step : Int → Option (Int ⊕ E)} (l : List α) (q : α → Bool) {e f : E} (h : ∀ (k : Nat) (hk : k < l.length), step (k : Int) = some (if q l[k] then .inl ((k + 1 : Nat) : Int) else .inr f)) (he : step (l.length : Int) = some (.inr e)) : loopC step 0 = some (if l.all q then e else f) := loop_list l (fun k : Nat => (k : Int)) q h he

theorem mulB {a b : Int} {A B : Nat} (ha : a.natAbs ≤ A) (hb : b.natAbs ≤ B) : (a * b).natAbs ≤ A * B := by
  rw [Int.natAbs_mul]; exact Nat.mul_le_mul ha hb

theorem mid_eq {lo hi : Nat} (h : lo ≤ hi) (hh : hi ≤ 1000000) : wr (Int.fdiv (IntKind.wrap .u64 (wr ((lo : Int) + (hi : Int)))) 2) = (((lo + hi) / 2 : Nat) : Int) := by
  rw [wr_in (n := (lo : Int) + (hi : Int)) (by omega) (by omega)]
  have e : IntKind.wrap .u64 ((lo : Int) + (hi : Int)) = ((lo + hi : Nat) : Int) := by
    simp [IntKind.wrap, IntKind.bits, IntKind.signed]; omega
  rw [e, show Int.fdiv ((lo + hi : Nat) : Int) 2 = (((lo + hi) / 2 : Nat) : Int) by rw [Int.fdiv_eq_ediv_of_nonneg _ (by omega)]; omega, wr_in (by omega) (by omega)]
set_option maxHeartbeats 2000000

theorem rin_eq (n a b : Int) : F_thalwegref03_in (n, a, b) = some (inB n a b) := by
  simp only [F_thalwegref03_in, ge_iff_le, bif_and, inB]
/-! the law -/
theorem knownT_eq : F_thalweglaw03_known () = some true := rfl
set_option maxHeartbeats 2000000

/-- What is divided: v is the speed, q is power times grip, w is mass times the speed's square. -/
def nS (v q w : Int) : Int := 4320 * (v * q) + 1000 * w
def loS (v q w : Int) : Int := nS v q w / (2592 * q)
def hiS (v q w : Int) : Int := -((-nS v q w) / (2592 * q))
def stopB (m p : Int) (g : TBounds) (v : Int) : TBounds := ⟨loS v (p * g.High) (m * (v * v)), hiS v (p * g.Low) (m * (v * v))⟩

theorem pos_mul {a b A B : Int} (ha : 0 ≤ a ∧ a ≤ A) (hb : 0 ≤ b ∧ b ≤ B) : 0 ≤ a * b ∧ a * b ≤ A * B := by
  refine ⟨Int.mul_nonneg ha.1 hb.1, Int.mul_le_mul ha.2 hb.2 hb.1 (Int.le_trans ha.1 ha.2)⟩

structure Sp (m p g v : Int) : Prop where
  m : 0 ≤ m ∧ m ≤ 400000
  p : 1 ≤ p ∧ p ≤ 20000
  g : 1 ≤ g ∧ g ≤ 1000
  v : 0 ≤ v ∧ v ≤ 400
theorem Sp.q {m p g v : Int} (h : Sp m p g v) : 1 ≤ p * g ∧ p * g ≤ 20000000 := by
  have h1 := pos_mul (a := p - 1) (b := g - 1) (A := 19999) (B := 999) (by have := h.p; omega) (by have := h.g; omega)
  have h2 := pos_mul (a := p) (b := g) (A := 20000) (B := 1000) (by have := h.p; omega) (by have := h.g; omega)
  have h3 := h.p
  have h4 := h.g
  have e : (p - 1) * (g - 1) = p * g - p - g + 1 := by rw [Int.sub_mul, Int.mul_sub]; omega
  omega
theorem Sp.t {m p g v : Int} (h : Sp m p g v) : 0 ≤ v * (p * g) ∧ v * (p * g) ≤ 8000000000 := by
  have := pos_mul (a := v) (b := p * g) (A := 400) (B := 20000000) (by have := h.v; omega) (by have := h.q; omega)
  omega
theorem Sp.w {m p g v : Int} (h : Sp m p g v) : 0 ≤ m * (v * v) ∧ m * (v * v) ≤ 64000000000 := by
  have h1 := pos_mul (a := v) (b := v) (A := 400) (B := 400) (by have := h.v; omega) (by have := h.v; omega)
  have := pos_mul (a := m) (b := v * v) (A := 400000) (B := 160000) (by have := h.m; omega) (by omega)
  omega
theorem Sp.n {m p g v : Int} (h : Sp m p g v) : 0 ≤ nS v (p * g) (m * (v * v)) ∧ nS v (p * g) (m * (v * v)) ≤ 98560000000000 := by
  have := h.t
  have := h.w
  unfold nS
  omega
theorem den_wr {m p g v : Int} (h : Sp m p g v) : wr (wr (2592 * p) * g) = 2592 * (p * g) := by
  have := h.q
  have := h.p
  rw [wr_in (n := 2592 * p) (by omega) (by omega), Int.mul_assoc, wr_in (by omega) (by omega)]
theorem sq_wr {m p g v : Int} (h : Sp m p g v) : wr (wr (wr (m * 1000) * v) * v) = 1000 * (m * (v * v)) := by
  have h1 := h.m
  have h2 := h.w
  have h3 := pos_mul (a := m) (b := v) (A := 400000) (B := 400) (by omega) (by have := h.v; omega)
  rw [wr_in (n := m * 1000) (by omega) (by omega), show m * 1000 * v = 1000 * (m * v) by ac_rfl, wr_in (n := 1000 * (m * v)) (by omega) (by omega), show 1000 * (m * v) * v = 1000 * (m * (v * v)) by ac_rfl, wr_in (by omega) (by omega)]
theorem num_wr {m p g v : Int} (h : Sp m p g v) : wr (wr (wr (wr (wr (v * 5) * 864) * p) * g) + wr (wr (wr (m * 1000) * v) * v)) = nS v (p * g) (m * (v * v)) := by
  have h1 := h.v
  have h2 := h.t
  have h3 := pos_mul (a := v) (b := p) (A := 400) (B := 20000) (by omega) (by have := h.p; omega)
  have hw := h.w
  rw [sq_wr h, wr_in (n := v * 5) (by omega) (by omega), wr_in (n := v * 5 * 864) (by omega) (by omega), show v * 5 * 864 * p = 4320 * (v * p) by rw [show (4320 : Int) = 5 * 864 from rfl]; ac_rfl, wr_in (n := 4320 * (v * p)) (by omega) (by omega), show 4320 * (v * p) * g = 4320 * (v * (p * g)) by ac_rfl, wr_in (n := 4320 * (v * (p * g))) (by omega) (by omega)]
  exact wr_in (by omega) (by omega)
theorem hi_alt {n k : Int} (hk : 0 < k) : -((-n) / k) = (n + k - 1) / k := by
  have e := Int.emod_add_mul_ediv (-n) k
  have e1 := Int.emod_nonneg (-n) (show k ≠ 0 by omega)
  have e2 := Int.emod_lt_of_pos (-n) hk
  symm
  refine div_of (r := k - 1 - (-n) % k) hk ?_ (by omega) (by omega)
  rw [Int.mul_neg]
  omega

/-! more speed, more power, more mass -/
theorem hi_le {v q w c : Int} (hq : 0 < q) : hiS v q w ≤ c ↔ nS v q w ≤ c * (2592 * q) := by
  unfold hiS
  rw [show -(-nS v q w / (2592 * q)) ≤ c ↔ -c ≤ -nS v q w / (2592 * q) by omega, Int.le_ediv_iff_mul_le (by omega), Int.neg_mul]
  omega
theorem le_lo {v q w c : Int} (hq : 0 < q) : c ≤ loS v q w ↔ c * (2592 * q) ≤ nS v q w := Int.le_ediv_iff_mul_le (by omega)
theorem nS_mono {v v' q w w' : Int} (hq : 0 < q) (hv : v ≤ v') (hw : w ≤ w') : nS v q w ≤ nS v' q w' := by
  have := Int.mul_le_mul_of_nonneg_right hv (Int.le_of_lt hq)
  unfold nS
  omega
theorem hi_mono {v v' q w w' : Int} (hq : 0 < q) (hv : v ≤ v') (hw : w ≤ w') : hiS v q w ≤ hiS v' q w' := by
  rw [hi_le hq]
  exact Int.le_trans (nS_mono hq hv hw) ((hi_le hq).1 (Int.le_refl _))
theorem lo_mono {v v' q w w' : Int} (hq : 0 < q) (hv : v ≤ v') (hw : w ≤ w') : loS v q w ≤ loS v' q w' := by
  rw [le_lo hq]
  exact Int.le_trans ((le_lo hq).1 (Int.le_refl _)) (nS_mono hq hv hw)
/-- c times what divides, against what is divided: by how much c exceeds the way before the brakes. -/
theorem over {v q w c : Int} : nS v q w ≤ c * (2592 * q) ↔ 1000 * w ≤ (2592 * c - 4320 * v) * q := by
  unfold nS
  rw [Int.sub_mul, show c * (2592 * q) = 2592 * c * q by ac_rfl, show 4320 * (v * q) = 4320 * v * q by ac_rfl]
  omega
theorem under {v q w c : Int} : c * (2592 * q) ≤ nS v q w ↔ (2592 * c - 4320 * v) * q ≤ 1000 * w := by
  unfold nS
  rw [Int.sub_mul, show c * (2592 * q) = 2592 * c * q by ac_rfl, show 4320 * (v * q) = 4320 * v * q by ac_rfl]
  omega
theorem hi_force {v q q' w : Int} (hq : 0 < q) (hqq : q ≤ q') (hw : 0 ≤ w) : hiS v q' w ≤ hiS v q w := by
  rw [hi_le (by omega), over]
  have h := over.1 ((hi_le hq).1 (Int.le_refl (hiS v q w)))
  generalize 2592 * hiS v q w - 4320 * v = d at *
  have hd : 0 ≤ d := by
    rcases Int.lt_or_le d 0 with c | c
    · have := Int.mul_neg_of_neg_of_pos c hq
      omega
    · exact c
  have := Int.mul_le_mul_of_nonneg_left hqq hd
  omega
theorem lo_force {v q q' w : Int} (hq : 0 < q) (hqq : q ≤ q') (hw : 0 ≤ w) : loS v q' w ≤ loS v q w := by
  rw [le_lo hq, under]
  have h := under.1 ((le_lo (by omega)).1 (Int.le_refl (loS v q' w)))
  generalize 2592 * loS v q' w - 4320 * v = d at *
  rcases Int.lt_or_le d 0 with c | c
  · have := Int.mul_neg_of_neg_of_pos c hq
    omega
  · have := Int.mul_le_mul_of_nonneg_left hqq c
    omega
theorem lo_le_hi {v q w : Int} (hq : 0 < q) : loS v q w ≤ hiS v q w := by
  have h1 := (le_lo (v := v) (w := w) hq).1 (Int.le_refl _)
  have h2 := (hi_le (v := v) (w := w) hq).1 (Int.le_refl _)
  have h3 := Int.le_trans h1 h2
  exact Int.le_of_mul_le_mul_right h3 (by omega)
theorem lo_nonneg {v q w : Int} (hq : 0 < q) (hn : 0 ≤ nS v q w) : 0 ≤ loS v q w := by
  rw [le_lo hq]; omega
theorem hi_way {v q w : Int} (hq : 0 < q) (hw : 0 ≤ w) : 5 * v ≤ 3 * hiS v q w := by
  have h := over.1 ((hi_le hq).1 (Int.le_refl (hiS v q w)))
  rcases Int.lt_or_le (2592 * hiS v q w - 4320 * v) 0 with c | c
  · have := Int.mul_neg_of_neg_of_pos c hq
    omega
  · omega
theorem hi_zero {q : Int} : hiS 0 q 0 = 0 := by simp [hiS, nS]
theorem sq_mono {m v v' : Int} (hm : 0 ≤ m) (h0 : 0 ≤ v) (h : v ≤ v') : m * (v * v) ≤ m * (v' * v') :=
  Int.mul_le_mul_of_nonneg_left (Int.mul_le_mul h h h0 (by omega)) hm

/-! what is allowed -/
def canV (m p : Int) (g : TBounds) : Bool := inB m 0 400000 && (inB p 1 20000 && vB g 1 1000)
theorem rvalid_eq (b : TBounds) (x y : Int) : F_thalwegref03_valid (b, x, y) = some (vB b x y) := by
  simp only [F_thalwegref03_valid, rin_eq, Option.bind_some, bif_and, Option.some.injEq]
  rw [Bool.eq_iff_iff]
  simp only [vB, Bool.and_eq_true, inB_iff, decide_eq_true_eq]
  omega
theorem canV_iff {m p : Int} {g : TBounds} : canV m p g = true ↔ (0 ≤ m ∧ m ≤ 400000) ∧ (1 ≤ p ∧ p ≤ 20000) ∧ g.Low ≤ g.High ∧ (1 ≤ g.Low ∧ g.Low ≤ 1000) ∧ 1 ≤ g.High ∧ g.High ≤ 1000 := by
  simp only [canV, vB, Bool.and_eq_true, inB_iff, decide_eq_true_eq]
theorem sp_of {m p : Int} {g : TBounds} (h : canV m p g = true) {v : Int} (hv : 0 ≤ v ∧ v ≤ 400) : Sp m p g.Low v ∧ Sp m p g.High v := by
  obtain ⟨a, b, c, d, e⟩ := canV_iff.1 h
  exact ⟨⟨a, b, d, hv⟩, ⟨a, b, e, hv⟩⟩
set_option maxHeartbeats 2000000

theorem tmod_in {a b : Int} (ha : 0 ≤ a) (hb : 0 < b) : 0 ≤ Int.tmod a b ∧ Int.tmod a b < b := ⟨Int.tmod_nonneg b ha, Int.tmod_lt_of_pos a hb⟩
theorem minmax_in {a b l h : Int} (up : Bool) (ha : l ≤ a ∧ a ≤ h) (hb : l ≤ b ∧ b ≤ h) : l ≤ minmax up a b ∧ minmax up a b ≤ h := by
  cases up <;> simp only [minmax, if_true, Bool.false_eq_true, if_false] <;> split <;> omega
theorem minmax_le {a b : Int} : minmax false a b ≤ minmax true a b := by
  simp only [minmax, if_true, Bool.false_eq_true, if_false]; split <;> split <;> omega
set_option maxHeartbeats 2000000

theorem every_Run {l : List TRun} {p : TRun → Option Bool} {q : TRun → Bool} {g : FuncId} {caps : List V} (hp : ∀ x ∈ l, p x = some (q x)) (hl : l.length ≤ 4611686018427387904) : F_numbers_Every_Run (l, p, g, caps) = some (l.all q) := by
  unfold F_numbers_Every_Run
  simp only
  rw [show (0 : Int) = ((0 : Nat) : Int) from rfl, loop_list l (fun k => (k : Int)) q (e := .inl ()) (f := .inr false)]
  · cases l.all q <;> rfl
  · intro k hk
    simp only [L_numbers_Every_Run_1, Int.ofNat_lt, hk, decide_true, cond_true, idx?_nat hk, Option.bind_some, hp _ (List.getElem_mem hk), wr_nat (show k < 9223372036854775807 by omega)]
    cases q l[k] <;> rfl
  · simp [L_numbers_Every_Run_1]
theorem if_bif {α : Type} (b : Bool) (x y : α) : (if b then x else y) = bif b then x else y := by cases b <;> rfl
def runV (x : TRun) : Bool := (inB x.From 0 100000 && inB x.To 0 100000) && (x.From != x.To && (vB x.Speed 1 400 && vB x.Wait 0 5000))
theorem validRun_eq (x : TRun) : F_tow_validRun x = some (runV x) := by
  simp only [F_tow_validRun, within2, valid_eq, Option.bind_some, bif_and, runV]
def runD (l : List TRun) (k : Nat) : TRun := l.getD k ⟨0, 0, ⟨0, 0⟩, ⟨0, 0⟩⟩
theorem runD_get {l : List TRun} {k : Nat} (h : k < l.length) : l[k] = runD l k := by simp [runD, h]
def dn (x : TRun) : Bool := decide (x.From < x.To)
def jP (l : List TRun) (j : Nat) : Bool := (runD l j).From == (runD l (j - 1)).To && (dn (runD l j) == dn (runD l (j - 1)))
def jOk (l : List TRun) : Bool := (List.range (l.length - 1)).all fun k => jP l (k + 1)
theorem joined_eq {l : List TRun} (hl : l.length ≤ 1000) : F_tow_joined l = some (jOk l) := by
  have h : loopC (L_tow_joined_1 l).step 1 = some (if jOk l then .inl () else .inr false) := by
    refine loop_list (List.range (l.length - 1)) (fun k => ((k + 1 : Nat) : Int)) (fun k => jP l (k + 1)) (fun k hk => ?_) ?_
    · have hk' : k < l.length - 1 := by simpa using hk
      have h1 : k + 1 < l.length := by omega
      have h0 : k < l.length := by omega
      have e : wr (((k + 1 : Nat) : Int) - 1) = (k : Int) := by rw [wr_in (by omega) (by omega)]; omega
      simp only [L_tow_joined_1, Int.ofNat_lt, h1, decide_true, cond_true, idx?_nat h1, Option.bind_some, e, idx?_nat h0, F_tow_down, List.getElem_range, jP, Nat.add_sub_cancel, runD_get h1, runD_get h0, dn]
      rw [wr_nat (by omega)]
      by_cases c : (runD l (k + 1)).From = (runD l k).To
      · simp only [c, bne_self_eq_false, cond_false, beq_self_eq_true, Bool.true_and]
        cases (decide ((runD l k).To < (runD l (k + 1)).To) == decide ((runD l k).From < (runD l k).To)) <;> rfl
      · rw [if_bif, show ((runD l (k + 1)).From != (runD l k).To) = true from by simpa using c, show ((runD l (k + 1)).From == (runD l k).To) = false from by simpa using c]; rfl
    · have : ¬ (((List.range (l.length - 1)).length + 1 : Nat) : Int) < (l.length : Int) ∨ l.length = 0 := by simp; omega
      simp only [L_tow_joined_1]
      rw [decide_eq_false (show ¬ (((List.range (l.length - 1)).length + 1 : Nat) : Int) < (l.length : Int) by rw [List.length_range]; omega)]
      rfl
  simp only [F_tow_joined]
  rw [h]
  cases jOk l <;> rfl
def voyV (v : TVoyage) : Bool := vB v.Start 0 1000000 && (inB (v.Runs.length : Int) 1 20 && (inB v.Length 1 3000 && (inB v.Width 1 200 && (v.Runs.all runV && jOk v.Runs))))
theorem Check_eq (v : TVoyage) : F_tow_Check v = some (bif voyV v then 0 else 2) := by
  simp only [F_tow_Check, valid_eq, within1, Option.bind_some, voyV]
  cases vB v.Start 0 1000000 with
  | false => rfl
  | true =>
    cases hn : inB (v.Runs.length : Int) 1 20 with
    | false => rfl
    | true =>
      have hn := inB_iff.1 hn
      cases inB v.Length 1 3000 with
      | false => rfl
      | true =>
        cases inB v.Width 1 200 with
        | false => rfl
        | true =>
          simp only [Bool.not_true, cond_false, Bool.true_and]
          rw [every_Run (q := runV) (fun x _ => validRun_eq x) (by omega), joined_eq (by omega)]
          cases v.Runs.all runV <;> cases jOk v.Runs <;> rfl
def jR (l : List TRun) (k : Nat) : Bool := runV (runD l k) && (decide (k = 0) || ((runD l k).From == (runD l (k - 1)).To && (dn (runD l k) == dn (runD l 0))))
theorem jR_all {l : List TRun} : (List.range l.length).all (jR l) = (l.all runV && jOk l) := by
  rw [Bool.eq_iff_iff]
  simp only [List.all_eq_true, List.mem_range, Bool.and_eq_true, jOk]
  constructor
  · intro h
    have hd : ∀ k, k < l.length → dn (runD l k) = dn (runD l 0) := by
      intro k hk
      have := h k hk
      simp only [jR, Bool.and_eq_true, Bool.or_eq_true, decide_eq_true_eq, beq_iff_eq] at this
      rcases this.2 with e | e
      · rw [e]
      · exact e.2
    refine ⟨fun x hx => ?_, fun k hk => ?_⟩
    · obtain ⟨k, hk, rfl⟩ := List.getElem_of_mem hx
      have := h k hk
      simp only [jR, Bool.and_eq_true] at this
      rw [runD_get hk]; exact this.1
    · have := h (k + 1) (by omega)
      simp only [jR, Bool.and_eq_true, Bool.or_eq_true, decide_eq_true_eq, beq_iff_eq] at this
      rcases this.2 with e | e
      · omega
      · simp only [jP, Bool.and_eq_true, beq_iff_eq]
        exact ⟨e.1, by rw [e.2, Nat.add_sub_cancel, hd k (by omega)]⟩
  · rintro ⟨h1, h2⟩ k hk
    have hd : ∀ k, k < l.length → dn (runD l k) = dn (runD l 0) := by
      intro k
      induction k with
      | zero => intro _; rfl
      | succ k ih =>
        intro hk
        have := h2 k (by omega)
        simp only [jP, Bool.and_eq_true, beq_iff_eq, Nat.add_sub_cancel] at this
        rw [this.2, ih (by omega)]
    simp only [jR, Bool.and_eq_true, Bool.or_eq_true, decide_eq_true_eq, beq_iff_eq]
    refine ⟨by rw [← runD_get hk]; exact h1 _ (List.getElem_mem hk), ?_⟩
    cases k with
    | zero => exact Or.inl rfl
    | succ k =>
      have := h2 k (by omega)
      simp only [jP, Bool.and_eq_true, beq_iff_eq] at this
      exact Or.inr ⟨this.1, hd _ hk⟩
theorem Voyage_eq (v : TVoyage) : F_thalwegref03_Voyage v = some (voyV v) := by
  simp only [F_thalwegref03_Voyage, rvalid_eq, rin_eq, Option.bind_some, voyV]
  cases vB v.Start 0 1000000 with
  | false => rfl
  | true =>
    cases hn : inB (v.Runs.length : Int) 1 20 with
    | false => rfl
    | true =>
      have hn := inB_iff.1 hn
      cases inB v.Length 1 3000 with
      | false => rfl
      | true =>
        cases inB v.Width 1 200 with
        | false => rfl
        | true =>
          simp only [Bool.not_true, cond_false, Bool.true_and]
          have h : loopC (L_thalwegref03_Voyage_1 v).step 0 = some (if (List.range v.Runs.length).all (jR v.Runs) then .inl () else .inr false) := by
            refine loop_range0 v.Runs.length (jR v.Runs) (fun k hk => ?_) ?_
            · rw [if_bif]
              have h0 : 0 < v.Runs.length := by omega
              have hz : idx? v.Runs 0 = some v.Runs[0] := idx?_nat (k := 0) h0
              simp only [L_thalwegref03_Voyage_1, Int.ofNat_lt, hk, decide_true, cond_true, idx?_nat hk, Option.bind_some, rin_eq, rvalid_eq, hz, runD_get hk, runD_get h0, jR, runV]
              rw [wr_nat (by omega)]
              cases e1 : inB (runD v.Runs k).From 0 100000 with
              | false => rfl
              | true =>
                cases e2 : inB (runD v.Runs k).To 0 100000 with
                | false => rfl
                | true =>
                  by_cases e3 : (runD v.Runs k).From = (runD v.Runs k).To
                  · simp [e3]
                  · rw [show ((runD v.Runs k).From == (runD v.Runs k).To) = false from by simpa using e3, show ((runD v.Runs k).From != (runD v.Runs k).To) = true from by simpa using e3]
                    cases e4 : vB (runD v.Runs k).Speed 1 400 with
                    | false => rfl
                    | true =>
                      cases e5 : vB (runD v.Runs k).Wait 0 5000 with
                      | false => rfl
                      | true =>
                        simp only [Bool.not_true, cond_false, Bool.and_self, Bool.true_and]
                        cases k with
                        | zero => rfl
                        | succ k =>
                          have hk1 : k < v.Runs.length := by omega
                          have e : wr (((k + 1 : Nat) : Int) - 1) = (k : Int) := by rw [wr_in (by omega) (by omega)]; omega
                          rw [decide_eq_true (show ((k + 1 : Nat) : Int) > 0 by omega), e, idx?_nat hk1, runD_get hk1]
                          simp only [cond_true, Option.bind_some, Nat.add_sub_cancel]
                          rw [decide_eq_false (show ¬ k + 1 = 0 by omega)]
                          simp only [Bool.false_or, gt_iff_lt]
                          by_cases c : (runD v.Runs (k + 1)).From = (runD v.Runs k).To
                          · simp only [c, bne_self_eq_false, cond_false, beq_self_eq_true, Bool.true_and, dn]
                            cases (decide ((runD v.Runs k).To < (runD v.Runs (k + 1)).To) == decide ((runD v.Runs 0).From < (runD v.Runs 0).To)) <;> rfl
                          · rw [show ((runD v.Runs (k + 1)).From != (runD v.Runs k).To) = true from by simpa using c, show ((runD v.Runs (k + 1)).From == (runD v.Runs k).To) = false from by simpa using c]; rfl
            · simp [L_thalwegref03_Voyage_1]
          rw [h, jR_all]
          cases v.Runs.all runV && jOk v.Runs <;> rfl
set_option maxHeartbeats 2000000

def dst (a b : Int) : Int := minmax true (b - a) (a - b)
theorem dst_comm (a b : Int) : minmax true (a - b) (b - a) = dst a b := by
  simp only [dst, minmax, if_true]; split <;> split <;> omega
theorem dst_le {a b : Int} (ha : 0 ≤ a ∧ a ≤ 100000) (hb : 0 ≤ b ∧ b ≤ 100000) : 0 ≤ dst a b ∧ dst a b ≤ 100000 := by
  simp only [dst, minmax, if_true]; split <;> omega
def upM (d s : Int) : Int := -((-(60 * d)) / s)
theorem upM_le {d s : Int} (hd : 0 ≤ d ∧ d ≤ 100000) (hs : 1 ≤ s) : 0 ≤ upM d s ∧ upM d s ≤ 6000000 := by
  have h1 := div_bound (a := -(60 * d)) (b := s) (by omega)
  have h2 : 0 ≤ upM d s := by
    unfold upM
    rw [hi_alt (by omega)]
    exact Int.ediv_nonneg (by omega) (by omega)
  unfold upM at *
  omega
def untilB (x : TRun) (place : Int) : TBounds := ⟨x.Wait.Low + upM (dst x.From place) x.Speed.High, x.Wait.High + upM (dst x.From place) x.Speed.Low⟩
structure Rn (x : TRun) : Prop where
  frm : 0 ≤ x.From ∧ x.From ≤ 100000
  to : 0 ≤ x.To ∧ x.To ≤ 100000
  ne : x.From ≠ x.To
  slo : 1 ≤ x.Speed.Low ∧ x.Speed.Low ≤ 400
  shi : 1 ≤ x.Speed.High ∧ x.Speed.High ≤ 400
  sle : x.Speed.Low ≤ x.Speed.High
  wlo : 0 ≤ x.Wait.Low ∧ x.Wait.Low ≤ 5000
  whi : 0 ≤ x.Wait.High ∧ x.Wait.High ≤ 5000
  wle : x.Wait.Low ≤ x.Wait.High
theorem rn_of {x : TRun} (h : runV x = true) : Rn x := by
  simp only [runV, vB, Bool.and_eq_true, inB_iff, decide_eq_true_eq, bne_iff_ne, ne_eq] at h
  obtain ⟨⟨a, b⟩, c, ⟨d, e, f⟩, g, i, j⟩ := h
  exact ⟨a, b, c, e, f, d, i, j, g⟩
theorem until_le {x : TRun} (h : Rn x) {place : Int} (hp : 0 ≤ place ∧ place ≤ 100000) : (0 ≤ (untilB x place).Low ∧ (untilB x place).Low ≤ 6005000) ∧ 0 ≤ (untilB x place).High ∧ (untilB x place).High ≤ 6005000 := by
  have hd := dst_le h.frm hp
  have h1 := upM_le hd h.shi.1
  have h2 := upM_le hd h.slo.1
  have h3 := h.wlo
  have h4 := h.whi
  simp only [untilB]
  omega
theorem until_eq {x : TRun} (h : Rn x) {place : Int} (hp : 0 ≤ place ∧ place ≤ 100000) : F_tow_until (x, place) = some (untilB x place) := by
  have hf := h.frm
  have hd := dst_le hf hp
  have h1 := upM_le hd h.shi.1
  have h2 := upM_le hd h.slo.1
  have h3 := h.wlo
  have h4 := h.whi
  have e : minmax true (place - x.From) (x.From - place) = dst x.From place := rfl
  simp only [F_tow_until]
  rw [wr_in (n := place - x.From) (by omega) (by omega), wr_in (n := x.From - place) (by omega) (by omega), e, wr_in (n := 60 * dst x.From place) (by omega) (by omega),
    Up_eq (b := x.Speed.High) (by have := h.shi; omega) (by omega), Up_eq (b := x.Speed.Low) (by have := h.slo; omega) (by omega)]
  simp only [Option.bind_some]
  unfold upM at h1 h2
  rw [wr_in (n := x.Wait.Low + _) (by omega) (by omega), wr_in (n := x.Wait.High + _) (by omega) (by omega)]
  rfl
theorem minutes_eq {a b s : Int} (ha : 0 ≤ a ∧ a ≤ 100000) (hb : 0 ≤ b ∧ b ≤ 100000) (hs : 1 ≤ s ∧ s ≤ 400) : F_thalwegref03_minutes (a, b, s) = some (upM (dst a b) s) := by
  have hd := dst_le ha hb
  have h1 := upM_le hd hs.1
  simp only [F_thalwegref03_minutes, nz_of (show s ≠ 0 by omega), Option.bind_some]
  rw [wr_in (n := a - b) (by omega) (by omega), wr_in (n := b - a) (by omega) (by omega), dst_comm, wr_in (n := 60 * dst a b) (by omega) (by omega), wr_in (n := 60 * dst a b + s) (by omega) (by omega), wr_in (n := 60 * dst a b + s - 1) (by omega) (by omega),
    Int.tdiv_eq_ediv_of_nonneg (by omega), ← hi_alt (by omega)]
  exact congrArg some (wr_in (n := upM (dst a b) s) (by omega) (by omega))
theorem Sum2 {p q : TBounds} (h1 : 0 ≤ p.Low ∧ p.Low ≤ 1000000000) (h2 : 0 ≤ p.High ∧ p.High ≤ 1000000000) (h3 : 0 ≤ q.Low ∧ q.Low ≤ 1000000000) (h4 : 0 ≤ q.High ∧ q.High ≤ 1000000000) : F_numbers_Sum [p, q] = some ⟨p.Low + q.Low, p.High + q.High⟩ := by
  have e1 : (L_numbers_Sum_1 [p, q]).step (0, 0, 0) = some (.inl (1, p.Low, p.High)) := by
    have : idx? [p, q] 0 = some p := idx?_nat (l := [p, q]) (k := 0) (by simp)
    simp only [L_numbers_Sum_1, this, Option.bind_some]
    rw [wr_in (n := 0 + p.Low) (by omega) (by omega), wr_in (n := 0 + p.High) (by omega) (by omega)]
    simp only [Int.zero_add]
    rfl
  have e2 : (L_numbers_Sum_1 [p, q]).step (1, p.Low, p.High) = some (.inl (2, p.Low + q.Low, p.High + q.High)) := by
    have : idx? [p, q] 1 = some q := idx?_nat (l := [p, q]) (k := 1) (by simp)
    simp only [L_numbers_Sum_1, this, Option.bind_some]
    rw [wr_in (n := p.Low + q.Low) (by omega) (by omega), wr_in (n := p.High + q.High) (by omega) (by omega)]
    rfl
  have e3 : (L_numbers_Sum_1 [p, q]).step (2, p.Low + q.Low, p.High + q.High) = some (.inr (p.Low + q.Low, p.High + q.High)) := rfl
  simp only [F_numbers_Sum]
  rw [loopC_eq, e1]
  simp only
  rw [loopC_eq, e2]
  simp only
  rw [loopC_eq, e3]
  rfl
theorem covers1 (a b n : Int) : F_tow_covers (a, b, [n]) = some (inB n (minmax false a b) (minmax true a b)) := by
  simp only [F_tow_covers, within1, Option.bind_some]
theorem between_eq (n a b : Int) : F_thalwegref03_between (n, a, b) = some (inB n (minmax false a b) (minmax true a b)) := by
  simp only [F_thalwegref03_between, ge_iff_le, bif_and, inB]
theorem btw_end (a b : Int) : inB b (minmax false a b) (minmax true a b) = true ∧ inB a (minmax false a b) (minmax true a b) = true := by
  simp only [inB_iff, minmax, if_true, Bool.false_eq_true, if_false]
  refine ⟨?_, ?_⟩ <;> split <;> split <;> omega
def aGo (place : Int) : List TRun → Int → Int → Int × Int
  | [], lo, hi => (lo, hi)
  | x :: m, lo, hi => if place = x.From then (lo, hi) else if inB place (minmax false x.From x.To) (minmax true x.From x.To) then (lo + (untilB x place).Low, hi + (untilB x place).High) else aGo place m (lo + (untilB x x.To).Low) (hi + (untilB x x.To).High)
structure Vy (v : TVoyage) : Prop where
  start : (0 ≤ v.Start.Low ∧ v.Start.Low ≤ 1000000) ∧ (0 ≤ v.Start.High ∧ v.Start.High ≤ 1000000)
  sle : v.Start.Low ≤ v.Start.High
  runs : 1 ≤ v.Runs.length ∧ v.Runs.length ≤ 20
  len : 1 ≤ v.Length ∧ v.Length ≤ 3000
  each : ∀ x ∈ v.Runs, Rn x
  join : ∀ k, k + 1 < v.Runs.length → (runD v.Runs (k + 1)).From = (runD v.Runs k).To
  dirs : ∀ k, k + 1 < v.Runs.length → dn (runD v.Runs (k + 1)) = dn (runD v.Runs k)
theorem vy_of {v : TVoyage} (h : voyV v = true) : Vy v := by
  simp only [voyV, vB, Bool.and_eq_true, inB_iff, decide_eq_true_eq, List.all_eq_true, jOk, List.mem_range, jP, beq_iff_eq] at h
  obtain ⟨⟨a, b, c⟩, d, e, f, g, i⟩ := h
  exact ⟨⟨b, c⟩, a, by omega, e, fun x hx => rn_of (g x hx), fun k hk => (i k (by omega)).1, fun k hk => (i k (by omega)).2⟩
theorem arrive_loop {v : TVoyage} (hv : Vy v) {place : Int} (hp : 0 ≤ place ∧ place ≤ 100000) : ∀ (m : List TRun) (k : Nat) (bow lo hi : Int), v.Runs.drop k = m → (∀ x m', m = x :: m' → bow = x.From) → 0 ≤ lo → lo ≤ 1000000 + 6005000 * k → 0 ≤ hi → hi ≤ 1000000 + 6005000 * k →
    loopC (L_tow_arrive_1 place v).step (bow, (k : Int), lo, hi) = some (aGo place m lo hi)
  | [], k, bow, lo, hi, h, _, _, _, _, _ => by
    have := drop_nil h
    rw [loopC_eq]
    simp [L_tow_arrive_1, show ¬ k < v.Runs.length by omega, aGo]
  | x :: m, k, bow, lo, hi, h, hb, l0, l1, h0, h1 => by
    obtain ⟨hk1, hg, hd⟩ := drop_cons h
    have hn := hv.runs
    have hx : Rn x := by rw [← hg]; exact hv.each _ (List.getElem_mem hk1)
    have hbow := hb x m rfl
    subst hbow
    rw [loopC_eq]
    generalize hLL : loopC (L_tow_arrive_1 place v).step = LL
    simp only [L_tow_arrive_1, Int.ofNat_lt, hk1, decide_true, cond_true, idx?_nat hk1, hg, Option.bind_some, covers1]
    rw [aGo]
    by_cases c : place = x.From
    · subst c
      simp
    · rw [if_neg c, show (x.From == place) = false from by rw [beq_eq_false_iff_ne]; exact fun e => c e.symm]
      have hu := until_le hx hp
      have ht := until_le hx hx.to
      cases c2 : inB place (minmax false x.From x.To) (minmax true x.From x.To) with
      | true =>
        simp only [cond_false, cond_true, until_eq hx hp, Option.bind_some, if_true]
        rw [Sum2 (by simp only; omega) (by simp only; omega) (by omega) (by omega)]
        simp only [Option.bind_some]
        subst hLL
        rw [wr_nat (by omega), loopC_eq]
        by_cases c3 : k + 1 < v.Runs.length
        · simp only [L_tow_arrive_1, Int.ofNat_lt, c3, decide_true, cond_true, idx?_nat c3, Option.bind_some, beq_self_eq_true]
        · simp only [L_tow_arrive_1, Int.ofNat_lt, c3, decide_false, cond_false]
      | false =>
        simp only [cond_false, until_eq hx hx.to, Option.bind_some, Bool.false_eq_true, if_false]
        rw [Sum2 (by simp only; omega) (by simp only; omega) (by omega) (by omega)]
        simp only [Option.bind_some]
        subst hLL
        rw [wr_nat (by omega)]
        refine arrive_loop hv hp m (k + 1) x.To _ _ hd ?_ (by omega) (by omega) (by omega) (by omega)
        intro y m' hy
        subst hy
        obtain ⟨hk2, hg2, _⟩ := drop_cons hd
        have := hv.join k hk2
        rw [← runD_get hk2, ← runD_get hk1, hg, hg2] at this
        exact this.symm
theorem rarrive_loop {v : TVoyage} (hv : Vy v) {place : Int} (hp : 0 ≤ place ∧ place ≤ 100000) : ∀ (m : List TRun) (k : Nat) (lo hi : Int), v.Runs.drop k = m → 0 ≤ lo → lo ≤ 1000000 + 6005000 * k → 0 ≤ hi → hi ≤ 1000000 + 6005000 * k →
    loopC (L_thalwegref03_Arrive_1 place v).step ((k : Int), lo, hi) = some (.inl (aGo place m lo hi)) ∨ loopC (L_thalwegref03_Arrive_1 place v).step ((k : Int), lo, hi) = some (.inr ⟨(aGo place m lo hi).1, (aGo place m lo hi).2⟩)
  | [], k, lo, hi, h, _, _, _, _ => by
    have := drop_nil h
    refine Or.inl ?_
    rw [loopC_eq]
    simp [L_thalwegref03_Arrive_1, show ¬ k < v.Runs.length by omega, aGo]
  | x :: m, k, lo, hi, h, l0, l1, h0, h1 => by
    obtain ⟨hk1, hg, hd⟩ := drop_cons h
    have hn := hv.runs
    have hx : Rn x := by rw [← hg]; exact hv.each _ (List.getElem_mem hk1)
    rw [loopC_eq]
    generalize hLL : loopC (L_thalwegref03_Arrive_1 place v).step = LL
    simp only [L_thalwegref03_Arrive_1, Int.ofNat_lt, hk1, decide_true, cond_true, idx?_nat hk1, hg, Option.bind_some, between_eq]
    rw [aGo]
    by_cases c : place = x.From
    · subst c
      exact Or.inr (by simp)
    · rw [if_neg c, show (place == x.From) = false from by rw [beq_eq_false_iff_ne]; exact c]
      have hu := until_le hx hp
      have ht := until_le hx hx.to
      cases c2 : inB place (minmax false x.From x.To) (minmax true x.From x.To) with
      | true =>
        simp only [cond_false, cond_true, minutes_eq hx.frm hp hx.shi, minutes_eq hx.frm hp hx.slo, Option.bind_some, if_true, beq_self_eq_true]
        simp only [untilB] at hu ⊢
        rw [wr_in (n := x.Wait.Low + _) (by omega) (by omega), wr_in (n := x.Wait.High + _) (by omega) (by omega), wr_in (n := lo + _) (by omega) (by omega), wr_in (n := hi + _) (by omega) (by omega)]
        exact Or.inr rfl
      | false =>
        have c3 : x.To ≠ place := by
          intro e
          have := (btw_end x.From x.To).1
          rw [e] at this
          rw [e, this] at c2
          cases c2
        simp only [cond_false, minutes_eq hx.frm hx.to hx.shi, minutes_eq hx.frm hx.to hx.slo, Option.bind_some, Bool.false_eq_true, if_false, show (x.To == place) = false from by rw [beq_eq_false_iff_ne]; exact c3]
        have ih := rarrive_loop hv hp m (k + 1) (lo + (untilB x x.To).Low) (hi + (untilB x x.To).High) hd (by omega) (by omega) (by omega) (by omega)
        rw [hLL] at ih
        simp only [untilB] at hu ht ih ⊢
        rw [wr_in (n := x.Wait.Low + _) (by omega) (by omega), wr_in (n := x.Wait.High + _) (by omega) (by omega), wr_in (n := lo + _) (by omega) (by omega), wr_in (n := hi + _) (by omega) (by omega), wr_nat (by omega)]
        exact ih
def arrB (v : TVoyage) (place : Int) : TBounds := ⟨(aGo place v.Runs v.Start.Low v.Start.High).1, (aGo place v.Runs v.Start.Low v.Start.High).2⟩
theorem arrive_eq {v : TVoyage} (hv : Vy v) {place : Int} (hp : 0 ≤ place ∧ place ≤ 100000) : F_tow_arrive (v, place) = some (arrB v place) ∧ F_thalwegref03_Arrive (v, place) = some (arrB v place) := by
  have hn := hv.runs
  have hs := hv.start
  have h0 : 0 < v.Runs.length := by omega
  have hz : idx? v.Runs 0 = some v.Runs[0] := idx?_nat (k := 0) h0
  refine ⟨?_, ?_⟩
  · simp only [F_tow_arrive, hz, Option.bind_some]
    have := arrive_loop hv hp v.Runs 0 v.Runs[0].From v.Start.Low v.Start.High rfl (fun x m h => by simp only [h, List.getElem_cons_zero]) (by omega) (by omega) (by omega) (by omega)
    have this : loopC (L_tow_arrive_1 place v).step (v.Runs[0].From, 0, v.Start.Low, v.Start.High) = _ := this
    rw [this]
    rfl
  · simp only [F_thalwegref03_Arrive]
    rcases rarrive_loop hv hp v.Runs 0 v.Start.Low v.Start.High rfl (by omega) (by omega) (by omega) (by omega) with this | this
    · have this : loopC (L_thalwegref03_Arrive_1 place v).step (0, v.Start.Low, v.Start.High) = _ := this
      rw [this]
      rfl
    · have this : loopC (L_thalwegref03_Arrive_1 place v).step (0, v.Start.Low, v.Start.High) = _ := this
      rw [this]
      rfl
def endsOf (v : TVoyage) : Int × Int := ((runD v.Runs 0).From, (runD v.Runs (v.Runs.length - 1)).To)
theorem ends_eq {v : TVoyage} (hv : Vy v) : F_tow_ends v = some (endsOf v) ∧ F_thalwegref03_Ends v = some (endsOf v) := by
  have hn := hv.runs
  have h0 : 0 < v.Runs.length := by omega
  have h1 : v.Runs.length - 1 < v.Runs.length := by omega
  have hz : idx? v.Runs 0 = some v.Runs[0] := idx?_nat (k := 0) h0
  have e : wr ((v.Runs.length : Int) - 1) = ((v.Runs.length - 1 : Nat) : Int) := by rw [wr_in (by omega) (by omega)]; omega
  simp only [F_tow_ends, F_thalwegref03_Ends, hz, e, idx?_nat h1, Option.bind_some, endsOf, runD_get h0, runD_get h1]
  exact ⟨trivial, trivial⟩
def onW (v : TVoyage) (n : Int) : Bool := inB n (minmax false (endsOf v).1 (endsOf v).2) (minmax true (endsOf v).1 (endsOf v).2)
theorem onWay_eq {v : TVoyage} (hv : Vy v) (n : Int) : F_tow_onWay (v, [n]) = some (onW v n) := by
  simp only [F_tow_onWay, (ends_eq hv).1, covers1, Option.bind_some, onW]
theorem On_eq {v : TVoyage} (hv : Vy v) (n : Int) : F_thalwegref03_On (v, n) = some (onW v n) := by
  simp only [F_thalwegref03_On, (ends_eq hv).2, between_eq, Option.bind_some, onW]
theorem ends_in {v : TVoyage} (hv : Vy v) : (0 ≤ (endsOf v).1 ∧ (endsOf v).1 ≤ 100000) ∧ 0 ≤ (endsOf v).2 ∧ (endsOf v).2 ≤ 100000 := by
  have hn := hv.runs
  have h0 : 0 < v.Runs.length := by omega
  have h1 : v.Runs.length - 1 < v.Runs.length := by omega
  refine ⟨?_, ?_⟩
  · show 0 ≤ (runD v.Runs 0).From ∧ (runD v.Runs 0).From ≤ 100000
    rw [← runD_get h0]; exact (hv.each _ (List.getElem_mem h0)).frm
  · show 0 ≤ (runD v.Runs (v.Runs.length - 1)).To ∧ (runD v.Runs (v.Runs.length - 1)).To ≤ 100000
    rw [← runD_get h1]; exact (hv.each _ (List.getElem_mem h1)).to
theorem onW_in {v : TVoyage} (hv : Vy v) {n : Int} (h : onW v n = true) : 0 ≤ n ∧ n ≤ 100000 := by
  obtain ⟨a, b⟩ := ends_in hv
  have c := minmax_in false a b
  have d := minmax_in true a b
  have := inB_iff.1 h
  omega
theorem copiedV_eq {v : TVoyage} (h : v.Runs.length ≤ 1000) : F_thalweglaw03_copied v = some v := by
  simp only [F_thalweglaw03_copied]
  rw [app_nil (m := v.Runs) (by omega) (by decide)]
  rfl
theorem unchanged_self {v : TVoyage} (h : v.Runs.length ≤ 1000) : F_thalweglaw03_unchanged ([v], [v]) = some true := by
  have i0 : idx? [v] 0 = some v := idx?_nat (l := [v]) (k := 0) (by simp)
  have h1 : loopC (L_thalweglaw03_unchanged_1 [v] [v] 0).step 0 = some (.inl ()) := by
    rw [show loopC (L_thalweglaw03_unchanged_1 [v] [v] 0).step 0 = loopC (L_thalweglaw03_unchanged_1 [v] [v] 0).step ((fun k : Nat => (k : Int)) 0) from rfl]
    refine loop_run (fun k : Nat => (k : Int)) v.Runs.length (fun j hj => ?_) ?_
    · simp only [L_thalweglaw03_unchanged_1, i0, Option.bind_some, Int.ofNat_lt, hj, decide_true, cond_true, idx?_nat hj, beq_self_eq_true, Bool.and_self, Bool.not_true, cond_false]
      rw [wr_nat (by omega)]
    · simp [L_thalweglaw03_unchanged_1, i0]
  have h2 : loopC (L_thalweglaw03_unchanged_2 [v] [v]).step 0 = some (.inl ()) := by
    have e1 : (L_thalweglaw03_unchanged_2 [v] [v]).step 0 = some (.inl 1) := by
      simp only [L_thalweglaw03_unchanged_2, i0, Option.bind_some, beq_self_eq_true, Bool.and_self, Bool.not_true, cond_false, bne_self_eq_false, h1]
      rfl
    have e2 : (L_thalweglaw03_unchanged_2 [v] [v]).step 1 = some (.inr (.inl ())) := rfl
    rw [loopC_eq, e1]
    simp only
    rw [loopC_eq, e2]
  simp only [F_thalweglaw03_unchanged, bne_self_eq_false, cond_false]
  rw [h2]
  rfl
set_option maxHeartbeats 2000000

def narV (n : TNarrow) : Bool := (inB n.From 0 100000 && inB n.To 0 100000) && (decide (n.From < n.To) && inB n.Width 1 200)
theorem validNarrow_eq (n : TNarrow) : F_tow_validNarrow n = some (narV n) := by
  simp only [F_tow_validNarrow, within2, within1, Option.bind_some, bif_and, narV]
theorem rNarrow_eq (n : TNarrow) : F_thalwegref03_Narrow n = some (narV n) := by
  simp only [F_thalwegref03_Narrow, rin_eq, Option.bind_some, bif_and, narV]
  cases h : inB n.From 0 100000 with
  | false => rfl
  | true =>
    have h := inB_iff.1 h
    rw [wr_in (n := n.From + 1) (by omega) (by omega)]
    simp only [cond_true, Option.some.injEq, Bool.true_and]
    rw [Bool.eq_iff_iff]
    simp only [Bool.and_eq_true, inB_iff, decide_eq_true_eq]
    omega
theorem nar_of {n : TNarrow} (h : narV n = true) : (0 ≤ n.From ∧ n.From ≤ 100000) ∧ (0 ≤ n.To ∧ n.To ≤ 100000) ∧ n.From < n.To := by
  simp only [narV, Bool.and_eq_true, inB_iff, decide_eq_true_eq] at h
  exact ⟨h.1.1, h.1.2, h.2.1⟩
def tl (v : TVoyage) : Int := -((-v.Length) / 100)
theorem tl_in {v : TVoyage} (hv : Vy v) : 1 ≤ tl v ∧ tl v ≤ 30 := by
  have := hv.len
  unfold tl
  omega
/-- A voyage goes down as its first run does. -/
theorem ends_dir {v : TVoyage} (hv : Vy v) : dn (runD v.Runs 0) = decide ((endsOf v).1 < (endsOf v).2) ∧ (endsOf v).1 ≠ (endsOf v).2 := by
  have hn := hv.runs
  have hr : ∀ k, k < v.Runs.length → Rn (runD v.Runs k) := fun k hk => by rw [← runD_get hk]; exact hv.each _ (List.getElem_mem hk)
  have key : ∀ k, k < v.Runs.length → dn (runD v.Runs k) = dn (runD v.Runs 0) ∧ (bif dn (runD v.Runs 0) then decide ((runD v.Runs 0).From < (runD v.Runs k).To) else decide ((runD v.Runs k).To < (runD v.Runs 0).From)) = true := by
    intro k
    induction k with
    | zero =>
      intro hk
      have := (hr 0 hk).ne
      refine ⟨rfl, ?_⟩
      cases h : dn (runD v.Runs 0) with
      | true => exact h
      | false =>
        have := of_decide_eq_false h
        exact decide_eq_true (by omega)
    | succ k ih =>
      intro hk
      obtain ⟨h1, h2⟩ := ih (by omega)
      have h3 := hv.dirs k hk
      have h4 := hv.join k hk
      have h5 := (hr (k + 1) hk).ne
      refine ⟨by rw [h3, h1], ?_⟩
      have h6 : dn (runD v.Runs (k + 1)) = dn (runD v.Runs 0) := by rw [h3, h1]
      cases h : dn (runD v.Runs 0) with
      | true =>
        rw [h] at h2 h6
        have a := of_decide_eq_true h2
        have b := of_decide_eq_true h6
        exact decide_eq_true (by omega)
      | false =>
        rw [h] at h2 h6
        have a := of_decide_eq_true h2
        have b := of_decide_eq_false h6
        exact decide_eq_true (by omega)
  have hk := (key (v.Runs.length - 1) (by omega)).2
  simp only [endsOf]
  cases h : dn (runD v.Runs 0) with
  | true =>
    rw [h] at hk
    have hk := of_decide_eq_true hk
    exact ⟨(decide_eq_true hk).symm, by omega⟩
  | false =>
    rw [h] at hk
    have hk := of_decide_eq_true hk
    exact ⟨(decide_eq_false (by omega)).symm, by omega⟩
theorem onWay2 {v : TVoyage} (hv : Vy v) (a b : Int) : F_tow_onWay (v, [a, b]) = some (onW v a && onW v b) := by
  simp only [F_tow_onWay, (ends_eq hv).1, F_tow_covers, within2, Option.bind_some, onW]
def noStay : Ttow_stay := ⟨⟨0, 0⟩, ⟨0, 0⟩, false⟩
theorem mm_lt {a b : Int} (h : a < b) : minmax false a b = a ∧ minmax true a b = b ∧ minmax false b a = a ∧ minmax true b a = b := by
  simp only [minmax, if_true, Bool.false_eq_true, if_false]
  refine ⟨?_, ?_, ?_, ?_⟩ <;> split <;> omega
/-- Both say the same of a narrow. -/
theorem visit_eq {v : TVoyage} (h : voyV v = true) {n : TNarrow} (hn : narV n = true) : ∃ s e, F_tow_visit (v, n) = some (s, e) ∧ F_thalwegref03_Through (v, n) = some (s.in_, s.out_, s.passes_, e) ∧ (e = 0 ∨ e = 9) := by
  have hv := vy_of h
  have hr := hv.runs
  have hl := hv.len
  obtain ⟨n1, n2, n3⟩ := nar_of hn
  have ht := tl_in hv
  have ⟨d1, d2⟩ := ends_dir hv
  obtain ⟨i1, i2⟩ := ends_in hv
  have h0 : 0 < v.Runs.length := by omega
  have hz : idx? v.Runs 0 = some v.Runs[0] := idx?_nat (k := 0) h0
  have eu : F_numbers_Up (v.Length, 100) = some (tl v) := Up_eq (by decide) (by omega)
  have et : wr (Int.tdiv (wr (v.Length + 99)) 100) = tl v := by
    rw [wr_in (n := v.Length + 99) (by omega) (by omega), Int.tdiv_eq_ediv_of_nonneg (by omega)]
    unfold tl
    rw [hi_alt (by decide), wr_in (by omega) (by omega)]
    congr 1
    omega
  have w1 : wr (n.To + tl v) = n.To + tl v := wr_in (by omega) (by omega)
  have w2 : wr (n.From - tl v) = n.From - tl v := wr_in (by omega) (by omega)
  have hd : F_tow_down v.Runs[0] = some (decide ((endsOf v).1 < (endsOf v).2)) := by
    rw [runD_get h0, ← d1]; rfl
  simp only [F_tow_visit, Check_eq, h, cond_true, Option.bind_some, bne_self_eq_false, cond_false, validNarrow_eq, hn, Bool.not_true, F_tow_gates, eu, hz, hd, w1, w2, F_thalwegref03_Through, (ends_eq hv).2, et, On_eq hv]
  by_cases c : (endsOf v).1 < (endsOf v).2
  · obtain ⟨m1, m2, _, _⟩ := mm_lt c
    have g := mm_lt (show n.From < n.To + tl v by omega)
    rw [decide_eq_true c, decide_eq_false (show ¬ (endsOf v).2 < (endsOf v).1 by omega)]
    simp only [cond_true, Option.bind_some, cond_false, onWay2 hv, F_tow_near, (ends_eq hv).1, m1, m2, g.1, g.2.1]
    by_cases c1 : (endsOf v).1 < n.To + tl v
    · rw [decide_eq_true c1]
      by_cases c2 : (endsOf v).2 > n.From
      · rw [decide_eq_true c2]
        cases o1 : onW v n.From with
        | false => exact ⟨noStay, 9, rfl, rfl, Or.inr rfl⟩
        | true =>
          cases o2 : onW v (n.To + tl v) with
          | false => exact ⟨noStay, 9, rfl, rfl, Or.inr rfl⟩
          | true =>
            simp only [Bool.and_self, cond_true, Bool.not_true, cond_false, (arrive_eq hv (onW_in hv o1)).1, (arrive_eq hv (onW_in hv o1)).2, (arrive_eq hv (onW_in hv o2)).1, (arrive_eq hv (onW_in hv o2)).2, Option.bind_some]
            exact ⟨_, _, rfl, rfl, Or.inl rfl⟩
      · rw [decide_eq_false c2]
        have o : onW v (n.To + tl v) = false := by
          rw [Bool.eq_false_iff]; intro o
          have := inB_iff.1 o
          rw [m1, m2] at this
          omega
        rw [o, Bool.and_false]
        exact ⟨noStay, 0, rfl, rfl, Or.inl rfl⟩
    · rw [decide_eq_false c1]
      have o : onW v n.From = false := by
        rw [Bool.eq_false_iff]; intro o
        have := inB_iff.1 o
        rw [m1, m2] at this
        omega
      rw [o, Bool.false_and]
      exact ⟨noStay, 0, rfl, rfl, Or.inl rfl⟩
  · have c' : (endsOf v).2 < (endsOf v).1 := by omega
    obtain ⟨_, _, m1, m2⟩ := mm_lt c'
    have g := mm_lt (show n.From - tl v < n.To by omega)
    rw [decide_eq_false c, decide_eq_true c']
    simp only [cond_true, Option.bind_some, cond_false, onWay2 hv, F_tow_near, (ends_eq hv).1, m1, m2, g.2.2.1, g.2.2.2]
    have key : ∀ (X : Option (TBounds × TBounds × Bool × Int)), (bif decide ((endsOf v).1 < n.To + tl v) then X else X) = X := by intro X; cases decide ((endsOf v).1 < n.To + tl v) <;> rfl
    rw [key]
    by_cases c1 : (endsOf v).1 > n.From - tl v
    · rw [decide_eq_true c1]
      by_cases c2 : (endsOf v).2 < n.To
      · rw [decide_eq_true c2]
        cases o1 : onW v n.To with
        | false => exact ⟨noStay, 9, rfl, rfl, Or.inr rfl⟩
        | true =>
          cases o2 : onW v (n.From - tl v) with
          | false => exact ⟨noStay, 9, rfl, rfl, Or.inr rfl⟩
          | true =>
            simp only [Bool.and_self, cond_true, Bool.not_true, cond_false, (arrive_eq hv (onW_in hv o1)).1, (arrive_eq hv (onW_in hv o1)).2, (arrive_eq hv (onW_in hv o2)).1, (arrive_eq hv (onW_in hv o2)).2, Option.bind_some]
            exact ⟨_, _, rfl, rfl, Or.inl rfl⟩
      · rw [decide_eq_false c2]
        have o : onW v (n.From - tl v) = false := by
          rw [Bool.eq_false_iff]; intro o
          have := inB_iff.1 o
          rw [m1, m2] at this
          omega
        rw [o, Bool.and_false]
        exact ⟨noStay, 0, rfl, rfl, Or.inl rfl⟩
    · rw [decide_eq_false c1]
      have o : onW v n.To = false := by
        rw [Bool.eq_false_iff]; intro o
        have := inB_iff.1 o
        rw [m1, m2] at this
        omega
      rw [o, Bool.false_and]
      refine ⟨noStay, 0, ?_, rfl, Or.inl rfl⟩
      cases decide ((endsOf v).2 < n.To) <;> rfl
theorem visit_bad (v : TVoyage) (n : TNarrow) (h : voyV v = false ∨ narV n = false) : F_tow_visit (v, n) = some (noStay, 2) := by
  simp only [F_tow_visit, Check_eq, Option.bind_some, validNarrow_eq]
  cases hv : voyV v with
  | false => rfl
  | true =>
    rcases h with h | h
    · rw [h] at hv; cases hv
    · rw [h]; rfl
set_option maxHeartbeats 2000000

def pickV (b : TBounds) (y : Int) : Int := b.Low + (b.High - b.Low) * y / 255
theorem pick_in {b : TBounds} (h : b.Low ≤ b.High) {y : Int} (hy : 0 ≤ y ∧ y ≤ 255) : b.Low ≤ pickV b y ∧ pickV b y ≤ b.High := by
  have h1 : 0 ≤ (b.High - b.Low) * y := Int.mul_nonneg (by omega) hy.1
  have h2 : (b.High - b.Low) * y ≤ (b.High - b.Low) * 255 := Int.mul_le_mul_of_nonneg_left hy.2 (by omega)
  unfold pickV
  generalize (b.High - b.Low) * y = w at *
  omega
def partV (l : List Int) (i : Nat) : Int := l.getD (i % l.length) 0
theorem part_in {l : List Int} (h : ∀ y ∈ l, 0 ≤ y ∧ y ≤ 255) (i : Nat) : 0 ≤ partV l i ∧ partV l i ≤ 255 := by
  unfold partV
  rw [List.getD_eq_getElem?_getD]
  cases hg : l[i % l.length]? with
  | none => simp
  | some y =>
    obtain ⟨hk, e⟩ := List.getElem?_eq_some_iff.1 hg
    simp only [Option.getD_some]
    exact h y (e ▸ List.getElem_mem hk)
theorem btw_alt {f t p : Int} (hne : f ≠ t) (hp : p ≠ f) : ((decide (p - f > 0) == decide (t > f)) && decide (dst f p ≤ dst f t)) = inB p (minmax false f t) (minmax true f t) := by
  rw [Bool.eq_iff_iff]
  simp only [Bool.and_eq_true, beq_iff_eq, decide_eq_decide, decide_eq_true_eq, inB_iff, dst, minmax, if_true, Bool.false_eq_true, if_false]
  split <;> split <;> split <;> split <;> omega
/-! where a place is found -/
def found (place : Int) : List TRun → Prop
  | [] => False
  | r :: m => place = r.From ∨ inB place (minmax false r.From r.To) (minmax true r.From r.To) = true ∨ found place m
theorem up_le {d s c : Int} (hs : 0 < s) : upM d s ≤ c ↔ 60 * d ≤ c * s := by
  unfold upM
  rw [show -(-(60 * d) / s) ≤ c ↔ -c ≤ -(60 * d) / s by omega, Int.le_ediv_iff_mul_le hs, Int.neg_mul]
  omega
theorem up_mono {d d' s s' : Int} (hd0 : 0 ≤ d) (hd : d ≤ d') (hs : 0 < s') (hss : s' ≤ s) : upM d s ≤ upM d' s' := by
  have h := (up_le hs).1 (Int.le_refl (upM d' s'))
  rw [up_le (by omega)]
  have h0 : 0 ≤ upM d' s' := by
    unfold upM
    rw [hi_alt hs]
    exact Int.ediv_nonneg (by omega) (by omega)
  have := Int.mul_le_mul_of_nonneg_left hss h0
  omega
/-- One after the other, all in one direction. -/
def chain (dir : Bool) : List TRun → Prop
  | [] => True
  | r :: m => dn r = dir ∧ (∀ y m', m = y :: m' → y.From = r.To) ∧ chain dir m
def lastTo : List TRun → Int
  | [] => 0
  | r :: m => if m = [] then r.To else lastTo m
def bef (dir : Bool) (a b : Int) : Prop := if dir then a ≤ b else b ≤ a
theorem found_of (dir : Bool) {place : Int} : ∀ (r : TRun) (m : List TRun), (∀ y ∈ r :: m, Rn y) → chain dir (r :: m) → bef dir r.From place → bef dir place (lastTo (r :: m)) → found place (r :: m)
  | r, [], hm, hc, h1, h2 => by
    have hr := hm r (by simp)
    refine Or.inr (Or.inl ?_)
    have hd := hc.1
    simp only [lastTo, if_true] at h2
    rw [inB_iff]
    cases dir with
    | true =>
      have := of_decide_eq_true hd
      obtain ⟨m1, m2, _, _⟩ := mm_lt this
      simp only [bef, if_true] at h1 h2
      omega
    | false =>
      have := of_decide_eq_false hd
      have hne := hr.ne
      obtain ⟨_, _, m1, m2⟩ := mm_lt (show r.To < r.From by omega)
      simp only [bef, Bool.false_eq_true, if_false] at h1 h2
      omega
  | r, y :: m, hm, hc, h1, h2 => by
    have hr := hm r (by simp)
    have hd := hc.1
    have hj := hc.2.1 y m rfl
    by_cases c : inB place (minmax false r.From r.To) (minmax true r.From r.To) = true
    · exact Or.inr (Or.inl c)
    · refine Or.inr (Or.inr (found_of dir y m (fun z hz => hm z (by simp only [List.mem_cons] at hz ⊢; exact Or.inr hz)) hc.2.2 ?_ ?_))
      · rw [inB_iff] at c
        rw [hj]
        cases dir with
        | true =>
          have := of_decide_eq_true hd
          obtain ⟨m1, m2, _, _⟩ := mm_lt this
          simp only [bef, if_true] at h1 ⊢
          omega
        | false =>
          have := of_decide_eq_false hd
          have hne := hr.ne
          obtain ⟨_, _, m1, m2⟩ := mm_lt (show r.To < r.From by omega)
          simp only [bef, Bool.false_eq_true, if_false] at h1 ⊢
          omega
      · have e : lastTo (r :: y :: m) = lastTo (y :: m) := by rw [lastTo, if_neg (by simp)]
        rw [e] at h2
        exact h2
theorem chain_of {v : TVoyage} (hv : Vy v) : ∀ (m : List TRun) (k : Nat), v.Runs.drop k = m → (m ≠ [] → dn (runD v.Runs k) = dn (runD v.Runs 0)) → chain (dn (runD v.Runs 0)) m ∧ (m ≠ [] → lastTo m = (runD v.Runs (v.Runs.length - 1)).To)
  | [], _, _, _ => ⟨trivial, fun h => absurd rfl h⟩
  | r :: m, k, h, hk => by
    obtain ⟨hk1, hg, hd⟩ := drop_cons h
    have hk := hk (by simp)
    have hg' : runD v.Runs k = r := by rw [← runD_get hk1, hg]
    have ih := chain_of hv m (k + 1) hd (fun hne => by
      have : k + 1 < v.Runs.length := by
        cases m with
        | nil => exact absurd rfl hne
        | cons y m' => exact (drop_cons hd).1
      rw [hv.dirs k this, hk])
    refine ⟨⟨by rw [← hg', hk], fun y m' hy => ?_, ih.1⟩, fun _ => ?_⟩
    · subst hy
      obtain ⟨hk2, hg2, _⟩ := drop_cons hd
      have := hv.join k hk2
      rw [← runD_get hk2, hg2, hg'] at this
      exact this
    · cases m with
      | nil =>
        have := drop_nil hd
        rw [lastTo, if_pos rfl, show v.Runs.length - 1 = k by omega, hg']
      | cons y m' =>
        rw [lastTo, if_neg (by simp)]
        exact ih.2 (by simp)
set_option maxHeartbeats 4000000

def enP (v : TVoyage) (n : TNarrow) : Int := bif dn (runD v.Runs 0) then n.From else n.To
def leP (v : TVoyage) (n : TNarrow) : Int := bif dn (runD v.Runs 0) then n.To + tl v else n.From - tl v
def seen (v : TVoyage) (n : TNarrow) (s : Ttow_stay) (e : Int) : Prop := s = noStay ∨ (e = 0 ∧ s = ⟨arrB v (enP v n), arrB v (leP v n), true⟩ ∧ onW v (enP v n) = true ∧ onW v (leP v n) = true)
theorem tail_wr {v : TVoyage} (hv : Vy v) : wr (Int.tdiv (wr (v.Length + 99)) 100) = tl v := by
  have hl := hv.len
  have ht := tl_in hv
  rw [wr_in (n := v.Length + 99) (by omega) (by omega), Int.tdiv_eq_ediv_of_nonneg (by omega)]
  unfold tl
  rw [hi_alt (by decide), wr_in (by omega) (by omega)]
  congr 1
  omega
theorem visit_more {v : TVoyage} (h : voyV v = true) {n : TNarrow} (hn : narV n = true) : ∃ s e, F_tow_visit (v, n) = some (s, e) ∧ seen v n s e := by
  have hv := vy_of h
  have hr := hv.runs
  have hl := hv.len
  obtain ⟨n1, n2, n3⟩ := nar_of hn
  have ht := tl_in hv
  have h0 : 0 < v.Runs.length := by omega
  have hz : idx? v.Runs 0 = some v.Runs[0] := idx?_nat (k := 0) h0
  have eu : F_numbers_Up (v.Length, 100) = some (tl v) := Up_eq (by decide) (by omega)
  have w1 : wr (n.To + tl v) = n.To + tl v := wr_in (by omega) (by omega)
  have w2 : wr (n.From - tl v) = n.From - tl v := wr_in (by omega) (by omega)
  have hd : F_tow_down v.Runs[0] = some (dn (runD v.Runs 0)) := by rw [runD_get h0]; rfl
  have hg : F_tow_gates (v, n) = some (enP v n, leP v n) := by
    simp only [F_tow_gates, eu, hz, hd, w1, w2, Option.bind_some, enP, leP]
    cases dn (runD v.Runs 0) <;> rfl
  simp only [F_tow_visit, Check_eq, h, cond_true, Option.bind_some, bne_self_eq_false, cond_false, validNarrow_eq, hn, Bool.not_true, hg, onWay2 hv]
  cases o1 : onW v (enP v n) with
  | false =>
    simp only [Bool.false_and, cond_false, F_tow_near, (ends_eq hv).1, Option.bind_some, bif_and]
    cases (decide (minmax false (endsOf v).1 (endsOf v).2 < minmax true (enP v n) (leP v n)) && decide (minmax true (endsOf v).1 (endsOf v).2 > minmax false (enP v n) (leP v n)))
    · exact ⟨noStay, 0, rfl, Or.inl rfl⟩
    · exact ⟨noStay, 9, rfl, Or.inl rfl⟩
  | true =>
    cases o2 : onW v (leP v n) with
    | false =>
      simp only [Bool.and_false, cond_false, F_tow_near, (ends_eq hv).1, Option.bind_some, bif_and]
      cases (decide (minmax false (endsOf v).1 (endsOf v).2 < minmax true (enP v n) (leP v n)) && decide (minmax true (endsOf v).1 (endsOf v).2 > minmax false (enP v n) (leP v n)))
      · exact ⟨noStay, 0, rfl, Or.inl rfl⟩
      · exact ⟨noStay, 9, rfl, Or.inl rfl⟩
    | true =>
      simp only [Bool.and_self, cond_true, (arrive_eq hv (onW_in hv o1)).1, (arrive_eq hv (onW_in hv o2)).1, Option.bind_some]
      exact ⟨_, _, rfl, Or.inr ⟨rfl, rfl, o1, o2⟩⟩
theorem dn_not {r : TRun} (h : Rn r) : decide (r.To < r.From) = !dn r := by
  have := h.ne
  unfold dn
  rw [Bool.eq_iff_iff]
  simp only [Bool.not_eq_true', decide_eq_true_eq, decide_eq_false_iff_not]
  omega
def within (b : TBounds) (t : Int) : Prop := b.Low ≤ t ∧ t ≤ b.High
def mayV (s t : Ttow_stay) : Bool := (s.passes_ && t.passes_) && (decide (s.in_.Low ≤ t.out_.High) && decide (t.in_.Low ≤ s.out_.High))
def mustV (s t : Ttow_stay) : Bool := (s.passes_ && t.passes_) && (decide (s.in_.High ≤ t.out_.Low) && decide (t.in_.High ≤ s.out_.Low))
theorem may_eq (s t : Ttow_stay) : F_tow_mayMeet (s, t) = some (mayV s t) := by
  simp only [F_tow_mayMeet, bif_and, mayV]
  cases s.passes_ <;> cases t.passes_ <;> rfl
end Go.Ev
/- Conflicts: what is gathered, and which meetings are found. -/
set_option linter.unusedVariables false
set_option linter.unusedSimpArgs false
namespace Go.Ev
set_option maxHeartbeats 2000000
theorem set?_of {α : Type} {l : List α} {j : Nat} {x : α} (h : j < l.length) : set? l (j : Int) x = some (l.set j x) := by
  unfold set?
  rw [if_pos (by omega), Int.toNat_natCast]
theorem every_Voyage {l : List TVoyage} {p : TVoyage → Option Bool} {q : TVoyage → Bool} {g : FuncId} {caps : List V} (hp : ∀ x ∈ l, p x = some (q x)) (hl : l.length ≤ 4611686018427387904) : F_numbers_Every_Voyage (l, p, g, caps) = some (l.all q) := by
  unfold F_numbers_Every_Voyage
  simp only
  rw [show (0 : Int) = ((0 : Nat) : Int) from rfl, loop_list l (fun k => (k : Int)) q (e := .inl ()) (f := .inr false)]
  · cases l.all q <;> rfl
  · intro k hk
    simp only [L_numbers_Every_Voyage_1, Int.ofNat_lt, hk, decide_true, cond_true, idx?_nat hk, Option.bind_some, hp _ (List.getElem_mem hk), wr_nat (show k < 9223372036854775807 by omega)]
    cases q l[k] <;> rfl
  · simp [L_numbers_Every_Voyage_1]
theorem every_Narrow {l : List TNarrow} {p : TNarrow → Option Bool} {q : TNarrow → Bool} {g : FuncId} {caps : List V} (hp : ∀ x ∈ l, p x = some (q x)) (hl : l.length ≤ 4611686018427387904) : F_numbers_Every_Narrow (l, p, g, caps) = some (l.all q) := by
  unfold F_numbers_Every_Narrow
  simp only
  rw [show (0 : Int) = ((0 : Nat) : Int) from rfl, loop_list l (fun k => (k : Int)) q (e := .inl ()) (f := .inr false)]
  · cases l.all q <;> rfl
  · intro k hk
    simp only [L_numbers_Every_Narrow_1, Int.ofNat_lt, hk, decide_true, cond_true, idx?_nat hk, Option.bind_some, hp _ (List.getElem_mem hk), wr_nat (show k < 9223372036854775807 by omega)]
    cases q l[k] <;> rfl
  · simp [L_numbers_Every_Narrow_1]
/-! what a voyage does in a narrow -/
noncomputable def sv (v : TVoyage) (n : TNarrow) : Ttow_stay × Int := (F_tow_visit (v, n)).getD (noStay, 0)
theorem sv_spec {v : TVoyage} (h : voyV v = true) {n : TNarrow} (hn : narV n = true) : F_tow_visit (v, n) = some (sv v n) ∧ F_thalwegref03_Through (v, n) = some ((sv v n).1.in_, (sv v n).1.out_, (sv v n).1.passes_, (sv v n).2) := by
  obtain ⟨s, e, h1, h2, _⟩ := visit_eq h hn
  have : sv v n = (s, e) := by unfold sv; rw [h1]; rfl
  rw [this]
  exact ⟨h1, h2⟩
noncomputable def rowE (v : TVoyage) : List TNarrow → Int
  | [] => 0
  | n :: m => if (sv v n).2 = 0 then rowE v m else (sv v n).2
noncomputable def allE (ns : List TNarrow) : List TVoyage → Int
  | [] => 0
  | v :: m => if rowE v ns = 0 then allE ns m else rowE v ns
noncomputable def rowS (v : TVoyage) (ns : List TNarrow) : List Ttow_stay := ns.map fun n => (sv v n).1
def fleet0 : Ttow_fleet := ⟨[], [], []⟩
theorem rowE_zero {v : TVoyage} : ∀ {ns : List TNarrow}, rowE v ns = 0 → ∀ n ∈ ns, (sv v n).2 = 0
  | n :: m, h, x, hx => by
    rw [rowE] at h
    by_cases c : (sv v n).2 = 0
    · rw [if_pos c] at h
      rcases List.mem_cons.1 hx with rfl | hx
      · exact c
      · exact rowE_zero h x hx
    · rw [if_neg c] at h; exact absurd h c
theorem allE_zero {ns : List TNarrow} : ∀ {l : List TVoyage}, allE ns l = 0 → ∀ v ∈ l, ∀ n ∈ ns, (sv v n).2 = 0
  | v :: m, h, x, hx => by
    rw [allE] at h
    by_cases c : rowE v ns = 0
    · rw [if_pos c] at h
      rcases List.mem_cons.1 hx with rfl | hx
      · exact rowE_zero c
      · exact allE_zero h x hx
    · rw [if_neg c] at h; exact absurd h c
section
variable {l : List TVoyage} {ns : List TNarrow}
theorem row_loop (hn : ns.length ≤ 20) (hN : ∀ n ∈ ns, narV n = true) {i : Nat} (hi : i < l.length) (hv : voyV l[i] = true) : ∀ (m : List TNarrow) (k : Nat) (st : List (List Ttow_stay)) (row : List Ttow_stay), ns.drop k = m → st[i]? = some row → row.length = k →
    loopC (L_tow_gather_1 l ns (i : Int)).step ((k : Int), st) = some (if rowE l[i] m = 0 then .inl (st.set i (row ++ rowS l[i] m)) else .inr (fleet0, rowE l[i] m))
  | [], k, st, row, hd, hs, hr => by
    have := drop_nil hd
    have e : (L_tow_gather_1 l ns (i : Int)).step ((k : Int), st) = some (.inr (.inl st)) := by
      simp only [L_tow_gather_1, decide_eq_false (show ¬ (k : Int) < (ns.length : Int) by omega), cond_false]
    rw [loopC_eq, e]
    obtain ⟨hi2, hg⟩ := List.getElem?_eq_some_iff.1 hs
    simp only [rowE, if_true, rowS, List.map_nil, List.append_nil]
    rw [← hg, List.set_getElem_self]
  | n :: m, k, st, row, hd, hs, hr => by
    obtain ⟨hk, hx, hd2⟩ := drop_cons hd
    obtain ⟨hi2, hg⟩ := List.getElem?_eq_some_iff.1 hs
    have hnv : narV n = true := hN n (by rw [← hx]; exact List.getElem_mem _)
    obtain ⟨e1, _⟩ := sv_spec hv hnv
    by_cases c : (sv l[i] n).2 = 0
    · have e : (L_tow_gather_1 l ns (i : Int)).step ((k : Int), st) = some (.inl (((k + 1 : Nat) : Int), st.set i (row ++ [(sv l[i] n).1]))) := by
        simp only [L_tow_gather_1, decide_eq_true (show (k : Int) < (ns.length : Int) by omega), cond_true, idx?_nat hk, hx, idx?_nat hi, Option.bind_some, e1, c, bne_self_eq_false, cond_false, idx?_nat hi2, hg]
        rw [app_of (by simp; omega) (by decide)]
        simp only [Option.bind_some]
        rw [set?_of hi2, wr_nat (by omega)]
        rfl
      rw [loopC_eq, e]
      show loopC _ _ = _
      rw [row_loop hn hN hi hv m (k + 1) _ (row ++ [(sv l[i] n).1]) hd2 (by rw [List.getElem?_set_self hi2]) (by simp [hr])]
      rw [rowE, if_pos c, List.set_set, List.append_assoc]
      rfl
    · have e : (L_tow_gather_1 l ns (i : Int)).step ((k : Int), st) = some (.inr (.inr (fleet0, (sv l[i] n).2))) := by
        simp only [L_tow_gather_1, decide_eq_true (show (k : Int) < (ns.length : Int) by omega), cond_true, idx?_nat hk, hx, idx?_nat hi, Option.bind_some, e1]
        rw [show ((sv l[i] n).2 != 0) = true by simpa using c]
        rfl
      rw [loopC_eq, e, rowE, if_neg c, if_neg c]
theorem gather_loop (hl : l.length ≤ 12) (hn : ns.length ≤ 20) (hV : ∀ v ∈ l, voyV v = true) (hN : ∀ n ∈ ns, narV n = true) : ∀ (m : List TVoyage) (i : Nat), l.drop i = m →
    loopC (L_tow_gather_2 l ns).step ((i : Int), (l.take i).map (rowS · ns) ++ List.replicate m.length []) = some (if allE ns m = 0 then .inl (l.map (rowS · ns)) else .inr (fleet0, allE ns m))
  | [], i, hd => by
    have := drop_nil hd
    rw [loopC_eq]
    simp only [L_tow_gather_2, decide_eq_false (show ¬ (i : Int) < (l.length : Int) by omega), cond_false, allE, if_true, List.length_nil, List.replicate_zero, List.append_nil]
    rw [List.take_of_length_le this]
  | v :: m, i, hd => by
    obtain ⟨hi, hx, hd2⟩ := drop_cons hd
    have ht : ((l.take i).map (rowS · ns)).length = i := by simp; omega
    have hv : voyV l[i] = true := hV _ (List.getElem_mem hi)
    have h1 := row_loop (l := l) hn hN hi hv ns 0 ((l.take i).map (rowS · ns) ++ List.replicate (v :: m).length []) [] rfl (by rw [List.getElem?_append_right (by omega), ht]; simp) rfl
    rw [hx] at h1
    have h1 : loopC (L_tow_gather_1 l ns (i : Int)).step (0, (l.take i).map (rowS · ns) ++ List.replicate (v :: m).length []) = _ := h1
    rw [loopC_eq]
    simp only [L_tow_gather_2, decide_eq_true (show (i : Int) < (l.length : Int) by omega), cond_true]
    rw [h1]
    by_cases c : rowE v ns = 0
    · simp only [if_pos c, Option.bind_some]
      rw [wr_nat (by omega), allE, if_pos c, List.nil_append, List.set_append_right _ _ (by omega), ht, Nat.sub_self, List.length_cons, List.replicate_succ, List.set_cons_zero]
      have h2 := gather_loop hl hn hV hN m (i + 1) hd2
      rw [List.take_succ_eq_append_getElem hi, List.map_append, hx] at h2
      simp only [List.map_cons, List.map_nil, List.append_assoc, List.singleton_append] at h2
      exact h2
    · simp only [if_neg c, Option.bind_some, allE]
def startE0 (l : List TVoyage) (ns : List TNarrow) : Bool := l.all voyV && ns.all narV
noncomputable def startE (l : List TVoyage) (ns : List TNarrow) : Int := if l.length > 12 then 5 else if ns.length > 20 then 5 else if startE0 l ns then allE ns l else 2
theorem gather_eq : F_tow_gather (l, ns) = some (if startE l ns = 0 then (⟨l, ns, l.map (rowS · ns)⟩, 0) else (fleet0, startE l ns)) := by
  simp only [F_tow_gather]
  by_cases c1 : l.length > 12
  · rw [decide_eq_true (show (l.length : Int) > 12 by omega)]
    have : startE l ns = 5 := by unfold startE; rw [if_pos c1]
    rw [this]; rfl
  rw [decide_eq_false (show ¬ (l.length : Int) > 12 by omega)]
  simp only [cond_false]
  by_cases c2 : ns.length > 20
  · rw [decide_eq_true (show (ns.length : Int) > 20 by omega)]
    have : startE l ns = 5 := by unfold startE; rw [if_neg c1, if_pos c2]
    rw [this]; rfl
  rw [decide_eq_false (show ¬ (ns.length : Int) > 20 by omega)]
  simp only [cond_false]
  rw [every_Voyage (q := voyV) (fun x _ => by simp only [F_tow_gather_1, Check_eq, Option.bind_some]; cases voyV x <;> rfl) (by omega), every_Narrow (q := narV) (fun x _ => validNarrow_eq x) (by omega)]
  simp only [Option.bind_some]
  have hst : startE l ns = if startE0 l ns then allE ns l else 2 := by unfold startE; rw [if_neg c1, if_neg c2]
  cases hV : l.all voyV with
  | false =>
    have : startE l ns = 2 := by rw [hst, startE0, hV]; rfl
    rw [this]; rfl
  | true =>
    cases hN : ns.all narV with
    | false =>
      have : startE l ns = 2 := by rw [hst, startE0, hV, hN]; rfl
      rw [this]; rfl
    | true =>
      have : startE l ns = allE ns l := by rw [hst, startE0, hV, hN]; rfl
      rw [this]
      rw [List.all_eq_true] at hV hN
      have hmk : mk? ([] : List Ttow_stay) (l.length : Int) 24 = some (List.replicate l.length []) := by
        unfold mk?; rw [if_pos ⟨by omega, by omega, by omega⟩, Int.toNat_natCast]
      simp only [Bool.not_true, cond_false, hmk, Option.bind_some]
      have h1 := gather_loop (l := l) (ns := ns) (by omega) (by omega) hV hN l 0 rfl
      have h1 : loopC (L_tow_gather_2 l ns).step (0, List.replicate l.length []) = _ := h1
      rw [h1]
      by_cases c : allE ns l = 0
      · simp only [if_pos c]; rfl
      · simp only [if_neg c]; rfl
/-! the reference's errors -/
theorem start3_loop (hn : ns.length ≤ 20) (hN : ∀ n ∈ ns, narV n = true) {i : Nat} (hi : i < l.length) (hv : voyV l[i] = true) : ∀ (m : List TNarrow) (k : Nat), ns.drop k = m →
    loopC (L_thalwegref03_Start_3 l ns (i : Int)).step (k : Int) = some (if rowE l[i] m = 0 then .inl () else .inr (rowE l[i] m))
  | [], k, hd => by
    have := drop_nil hd
    rw [loopC_eq]
    simp only [L_thalwegref03_Start_3, decide_eq_false (show ¬ (k : Int) < (ns.length : Int) by omega), cond_false, rowE, if_true]
  | n :: m, k, hd => by
    obtain ⟨hk, hx, hd2⟩ := drop_cons hd
    have hnv : narV n = true := hN n (by rw [← hx]; exact List.getElem_mem _)
    obtain ⟨_, e1⟩ := sv_spec hv hnv
    by_cases c : (sv l[i] n).2 = 0
    · have e : (L_thalwegref03_Start_3 l ns (i : Int)).step (k : Int) = some (.inl ((k + 1 : Nat) : Int)) := by
        simp only [L_thalwegref03_Start_3, decide_eq_true (show (k : Int) < (ns.length : Int) by omega), cond_true, idx?_nat hk, hx, idx?_nat hi, Option.bind_some, e1, c, bne_self_eq_false, cond_false, wr_nat (show k < 9223372036854775807 by omega)]
      rw [loopC_eq, e]
      show loopC _ _ = _
      rw [start3_loop hn hN hi hv m (k + 1) hd2, rowE, if_pos c]
    · have e : (L_thalwegref03_Start_3 l ns (i : Int)).step (k : Int) = some (.inr (.inr (sv l[i] n).2)) := by
        simp only [L_thalwegref03_Start_3, decide_eq_true (show (k : Int) < (ns.length : Int) by omega), cond_true, idx?_nat hk, hx, idx?_nat hi, Option.bind_some, e1]
        rw [show ((sv l[i] n).2 != 0) = true by simpa using c]
        rfl
      rw [loopC_eq, e, rowE, if_neg c, if_neg c]
theorem start4_loop (hl : l.length ≤ 12) (hn : ns.length ≤ 20) (hV : ∀ v ∈ l, voyV v = true) (hN : ∀ n ∈ ns, narV n = true) : ∀ (m : List TVoyage) (i : Nat), l.drop i = m →
    loopC (L_thalwegref03_Start_4 l ns).step (i : Int) = some (if allE ns m = 0 then .inl () else .inr (allE ns m))
  | [], i, hd => by
    have := drop_nil hd
    rw [loopC_eq]
    simp only [L_thalwegref03_Start_4, decide_eq_false (show ¬ (i : Int) < (l.length : Int) by omega), cond_false, allE, if_true]
  | v :: m, i, hd => by
    obtain ⟨hi, hx, hd2⟩ := drop_cons hd
    have hv : voyV l[i] = true := hV _ (List.getElem_mem hi)
    have h1 := start3_loop (l := l) hn hN hi hv ns 0 rfl
    rw [hx] at h1
    have h1 : loopC (L_thalwegref03_Start_3 l ns (i : Int)).step 0 = _ := h1
    rw [loopC_eq]
    simp only [L_thalwegref03_Start_4, decide_eq_true (show (i : Int) < (l.length : Int) by omega), cond_true]
    rw [h1]
    by_cases c : rowE v ns = 0
    · simp only [if_pos c, Option.bind_some]
      rw [wr_nat (by omega), allE, if_pos c]
      exact start4_loop hl hn hV hN m (i + 1) hd2
    · simp only [if_neg c, Option.bind_some, allE]
theorem Start_eq : F_thalwegref03_Start (l, ns) = some (startE l ns) := by
  simp only [F_thalwegref03_Start]
  by_cases c1 : l.length > 12
  · rw [decide_eq_true (show (l.length : Int) > 12 by omega)]
    have : startE l ns = 5 := by unfold startE; rw [if_pos c1]
    rw [this]; rfl
  rw [decide_eq_false (show ¬ (l.length : Int) > 12 by omega)]
  simp only [cond_false]
  by_cases c2 : ns.length > 20
  · rw [decide_eq_true (show (ns.length : Int) > 20 by omega)]
    have : startE l ns = 5 := by unfold startE; rw [if_neg c1, if_pos c2]
    rw [this]; rfl
  rw [decide_eq_false (show ¬ (ns.length : Int) > 20 by omega)]
  simp only [cond_false]
  have hst : startE l ns = if startE0 l ns then allE ns l else 2 := by unfold startE; rw [if_neg c1, if_neg c2]
  rw [loop_list0 l voyV (e := .inl ()) (f := .inr 2), loop_list0 ns narV (e := .inl ()) (f := .inr 2)]
  · cases hV : l.all voyV with
    | false =>
      have : startE l ns = 2 := by rw [hst, startE0, hV]; rfl
      rw [this]; rfl
    | true =>
      cases hN : ns.all narV with
      | false =>
        have : startE l ns = 2 := by rw [hst, startE0, hV, hN]; rfl
        rw [this]; rfl
      | true =>
        have : startE l ns = allE ns l := by rw [hst, startE0, hV, hN]; rfl
        rw [this]
        rw [List.all_eq_true] at hV hN
        simp only [if_true, Option.bind_some]
        have h1 := start4_loop (l := l) (ns := ns) (by omega) (by omega) hV hN l 0 rfl
        have h1 : loopC (L_thalwegref03_Start_4 l ns).step 0 = _ := h1
        rw [h1]
        by_cases c : allE ns l = 0
        · simp only [if_pos c, c]; rfl
        · simp only [if_neg c]; rfl
  · intro k hk
    simp only [L_thalwegref03_Start_2, Int.ofNat_lt, hk, decide_true, cond_true, idx?_nat hk, rNarrow_eq, Option.bind_some, wr_nat (show k < 9223372036854775807 by omega)]
    cases narV ns[k] <;> rfl
  · simp [L_thalwegref03_Start_2]
  · intro k hk
    simp only [L_thalwegref03_Start_1, Int.ofNat_lt, hk, decide_true, cond_true, idx?_nat hk, Voyage_eq, Option.bind_some, wr_nat (show k < 9223372036854775807 by omega)]
    cases voyV l[k] <;> rfl
  · simp [L_thalwegref03_Start_1]
end
end Go.Ev
/- Conflicts: the meetings, and the law. -/
set_option linter.unusedVariables false
set_option linter.unusedSimpArgs false
namespace Go.Ev
set_option maxHeartbeats 2000000
/-- Two voyages may meet in a narrow and must not. -/
noncomputable def bar (v w : TVoyage) (n : TNarrow) : Bool := mayV (sv v n).1 (sv w n).1 && (n.Single || decide (v.Width + w.Width > n.Width))
noncomputable def m1 (i j : Nat) (v w : TVoyage) : List TNarrow → Nat → List TMeeting
  | [], _ => []
  | n :: m, k => (if bar v w n = true then [⟨(i : Int), (j : Int), (k : Int)⟩] else []) ++ m1 i j v w m (k + 1)
noncomputable def m2 (ns : List TNarrow) (i : Nat) (v : TVoyage) : List TVoyage → Nat → List TMeeting
  | [], _ => []
  | w :: m, j => m1 i j v w ns 0 ++ m2 ns i v m (j + 1)
noncomputable def m3 (ns : List TNarrow) : List TVoyage → Nat → List TMeeting
  | [], _ => []
  | v :: m, i => m2 ns i v m (i + 1) ++ m3 ns m (i + 1)
theorem m1_len (i j : Nat) (v w : TVoyage) : ∀ (m : List TNarrow) (k : Nat), (m1 i j v w m k).length ≤ m.length
  | [], _ => Nat.le_refl _
  | n :: m, k => by
    have := m1_len i j v w m (k + 1)
    rw [m1]
    by_cases c : bar v w n = true
    · rw [if_pos c]; simp; omega
    · rw [if_neg c]; simp; omega
theorem m2_len (ns : List TNarrow) (i : Nat) (v : TVoyage) : ∀ (m : List TVoyage) (j : Nat), (m2 ns i v m j).length ≤ ns.length * m.length
  | [], _ => Nat.zero_le _
  | w :: m, j => by
    have h1 := m1_len i j v w ns 0
    have h2 := m2_len ns i v m (j + 1)
    rw [m2, List.length_append, List.length_cons, Nat.mul_succ]
    omega
theorem wid {v : TVoyage} (h : voyV v = true) : 1 ≤ v.Width ∧ v.Width ≤ 200 := by
  simp only [voyV, Bool.and_eq_true, inB_iff] at h
  exact h.2.2.2.1
section
variable {l : List TVoyage} {ns : List TNarrow}
theorem stays_get {i k : Nat} (hi : i < l.length) (hk : k < ns.length) : idx? (l.map (rowS · ns)) (i : Int) = some (rowS l[i] ns) ∧ idx? (rowS l[i] ns) (k : Int) = some (sv l[i] ns[k]).1 := by
  refine ⟨?_, ?_⟩
  · rw [idx?_nat (by simpa using hi)]; simp
  · rw [idx?_nat (by simpa [rowS] using hk)]; simp [rowS]
theorem p1_step (hV : ∀ v ∈ l, voyV v = true) {i j k : Nat} (hi : i < l.length) (hj : j < l.length) (hk : k < ns.length) (hk9 : k < 1000) {acc : List TMeeting} (ha : acc.length ≤ 1000000) :
    (L_tow_Conflicts_1 l[i] l[j] (⟨l, ns, l.map (rowS · ns)⟩, 0) l (i : Int) (j : Int)).step ((k : Int), acc) = some (.inl (((k + 1 : Nat) : Int), acc ++ if bar l[i] l[j] ns[k] = true then [⟨(i : Int), (j : Int), (k : Int)⟩] else [])) := by
  obtain ⟨a1, a2⟩ := stays_get (l := l) (ns := ns) hi hk
  obtain ⟨b1, b2⟩ := stays_get (l := l) (ns := ns) hj hk
  have w1 := wid (hV _ (List.getElem_mem hi))
  have w2 := wid (hV _ (List.getElem_mem hj))
  have hwr : wr (l[i].Width + l[j].Width) = l[i].Width + l[j].Width := wr_in (by omega) (by omega)
  have happ : app? acc [(⟨(i : Int), (j : Int), (k : Int)⟩ : TMeeting)] 24 = some (acc ++ [⟨(i : Int), (j : Int), (k : Int)⟩]) := app_of (by simp; omega) (by decide)
  simp only [L_tow_Conflicts_1, decide_eq_true (show (k : Int) < (ns.length : Int) by omega), cond_true, idx?_nat hk, Option.bind_some, a1, a2, b1, b2, hwr, may_eq, happ, wr_nat (show k < 9223372036854775807 by omega)]
  unfold bar mayV
  cases hS : ns[k].Single <;> cases hp : (sv l[i] ns[k]).1.passes_ <;> cases hq : (sv l[j] ns[k]).1.passes_ <;> simp only [cond_true, cond_false, Bool.false_and, Bool.true_and, Bool.and_false, Bool.false_or, Bool.true_or, Bool.and_true, if_true, if_false, List.append_nil, Bool.false_eq_true]
  all_goals first
    | rfl
    | (cases hd : decide (l[i].Width + l[j].Width > ns[k].Width) <;> simp only [cond_true, cond_false, Bool.and_false, Bool.and_true, Bool.false_eq_true, if_false, List.append_nil] <;> first
        | rfl
        | (cases hm : (decide ((sv l[i] ns[k]).1.in_.Low ≤ (sv l[j] ns[k]).1.out_.High) && decide ((sv l[j] ns[k]).1.in_.Low ≤ (sv l[i] ns[k]).1.out_.High)) <;> simp))
    | (cases hm : (decide ((sv l[i] ns[k]).1.in_.Low ≤ (sv l[j] ns[k]).1.out_.High) && decide ((sv l[j] ns[k]).1.in_.Low ≤ (sv l[i] ns[k]).1.out_.High)) <;> simp)
theorem p1_loop (hn : ns.length ≤ 20) (hV : ∀ v ∈ l, voyV v = true) {i j : Nat} (hi : i < l.length) (hj : j < l.length) : ∀ (m : List TNarrow) (k : Nat) (acc : List TMeeting), ns.drop k = m → acc.length + m.length ≤ 1000000 →
    loopC (L_tow_Conflicts_1 l[i] l[j] (⟨l, ns, l.map (rowS · ns)⟩, 0) l (i : Int) (j : Int)).step ((k : Int), acc) = some (acc ++ m1 i j l[i] l[j] m k)
  | [], k, acc, hd, _ => by
    have := drop_nil hd
    have e : (L_tow_Conflicts_1 l[i] l[j] (⟨l, ns, l.map (rowS · ns)⟩, 0) l (i : Int) (j : Int)).step ((k : Int), acc) = some (.inr acc) := by
      simp only [L_tow_Conflicts_1, decide_eq_false (show ¬ (k : Int) < (ns.length : Int) by omega), cond_false]
    rw [loopC_eq, e, m1, List.append_nil]
  | n :: m, k, acc, hd, ha => by
    obtain ⟨hk, hx, hd2⟩ := drop_cons hd
    simp only [List.length_cons] at ha
    rw [loopC_eq, p1_step hV hi hj hk (by omega) (by omega), hx]
    show loopC _ _ = _
    rw [p1_loop hn hV hi hj m (k + 1) _ hd2 (by split <;> simp <;> omega), m1, List.append_assoc]
theorem p2_loop (hl : l.length ≤ 12) (hn : ns.length ≤ 20) (hV : ∀ v ∈ l, voyV v = true) {i : Nat} (hi : i < l.length) : ∀ (m : List TVoyage) (j : Nat) (acc : List TMeeting), l.drop j = m → acc.length + 20 * m.length ≤ 1000000 →
    loopC (L_tow_Conflicts_2 l (i : Int) (⟨l, ns, l.map (rowS · ns)⟩, 0)).step (acc, (j : Int)) = some (acc ++ m2 ns i l[i] m j)
  | [], j, acc, hd, _ => by
    have := drop_nil hd
    have e : (L_tow_Conflicts_2 l (i : Int) (⟨l, ns, l.map (rowS · ns)⟩, 0)).step (acc, (j : Int)) = some (.inr acc) := by
      simp only [L_tow_Conflicts_2, decide_eq_false (show ¬ (j : Int) < (l.length : Int) by omega), cond_false]
    rw [loopC_eq, e, m2, List.append_nil]
  | w :: m, j, acc, hd, ha => by
    obtain ⟨hj, hx, hd2⟩ := drop_cons hd
    simp only [List.length_cons] at ha
    have h1 := p1_loop (l := l) (ns := ns) hn hV hi hj ns 0 acc rfl (by omega)
    have h1 : loopC (L_tow_Conflicts_1 l[i] l[j] (⟨l, ns, l.map (rowS · ns)⟩, 0) l (i : Int) (j : Int)).step (0, acc) = _ := h1
    have hlen := m1_len i j l[i] l[j] ns 0
    have e : (L_tow_Conflicts_2 l (i : Int) (⟨l, ns, l.map (rowS · ns)⟩, 0)).step (acc, (j : Int)) = some (.inl (acc ++ m1 i j l[i] l[j] ns 0, ((j + 1 : Nat) : Int))) := by
      simp only [L_tow_Conflicts_2, decide_eq_true (show (j : Int) < (l.length : Int) by omega), cond_true, idx?_nat hi, idx?_nat hj, Option.bind_some]
      rw [h1]
      simp only [Option.bind_some]
      rw [wr_nat (by omega)]
    rw [loopC_eq, e]
    show loopC _ _ = _
    rw [p2_loop hl hn hV hi m (j + 1) _ hd2 (by rw [List.length_append]; omega), m2, hx, List.append_assoc]
theorem p3_loop (hl : l.length ≤ 12) (hn : ns.length ≤ 20) (hV : ∀ v ∈ l, voyV v = true) : ∀ (m : List TVoyage) (i : Nat) (acc : List TMeeting), l.drop i = m → acc.length + 300 * m.length ≤ 1000000 →
    loopC (L_tow_Conflicts_3 l (⟨l, ns, l.map (rowS · ns)⟩, 0)).step ((i : Int), acc) = some (acc ++ m3 ns m i)
  | [], i, acc, hd, _ => by
    have := drop_nil hd
    have e : (L_tow_Conflicts_3 l (⟨l, ns, l.map (rowS · ns)⟩, 0)).step ((i : Int), acc) = some (.inr acc) := by
      simp only [L_tow_Conflicts_3, decide_eq_false (show ¬ (i : Int) < (l.length : Int) by omega), cond_false]
    rw [loopC_eq, e, m3, List.append_nil]
  | v :: m, i, acc, hd, ha => by
    obtain ⟨hi, hx, hd2⟩ := drop_cons hd
    simp only [List.length_cons] at ha
    have hml : m.length ≤ 12 := by rw [← hd2]; simp; omega
    have h1 := p2_loop (l := l) (ns := ns) hl hn hV hi m (i + 1) acc hd2 (by omega)
    have hlen := m2_len ns i l[i] m (i + 1)
    have hlen2 : ns.length * m.length ≤ 20 * 12 := Nat.mul_le_mul hn hml
    have e : (L_tow_Conflicts_3 l (⟨l, ns, l.map (rowS · ns)⟩, 0)).step ((i : Int), acc) = some (.inl (((i + 1 : Nat) : Int), acc ++ m2 ns i l[i] m (i + 1))) := by
      simp only [L_tow_Conflicts_3, decide_eq_true (show (i : Int) < (l.length : Int) by omega), cond_true]
      rw [wr_nat (by omega), h1]
      rfl
    rw [loopC_eq, e]
    show loopC _ _ = _
    rw [p3_loop hl hn hV m (i + 1) _ hd2 (by rw [List.length_append]; omega), m3, hx, List.append_assoc]
theorem start_zero (h : startE l ns = 0) : l.length ≤ 12 ∧ ns.length ≤ 20 ∧ (∀ v ∈ l, voyV v = true) ∧ (∀ n ∈ ns, narV n = true) ∧ allE ns l = 0 := by
  unfold startE at h
  split at h
  · cases h
  split at h
  · cases h
  split at h
  · next c =>
    unfold startE0 at c
    simp only [Bool.and_eq_true, List.all_eq_true] at c
    exact ⟨by omega, by omega, c.1, c.2, h⟩
  · cases h
theorem Conflicts_eq : F_tow_Conflicts (l, ns) = some (if startE l ns = 0 then (m3 ns l 0, 0) else ([], startE l ns)) := by
  simp only [F_tow_Conflicts, gather_eq, Option.bind_some]
  by_cases c : startE l ns = 0
  · obtain ⟨h1, h2, h3, h4, h5⟩ := start_zero c
    simp only [if_pos c, bne_self_eq_false, cond_false]
    have h := p3_loop (l := l) (ns := ns) h1 h2 h3 l 0 [] rfl (by simp; omega)
    have h : loopC (L_tow_Conflicts_3 l (⟨l, ns, l.map (rowS · ns)⟩, 0)).step (0, []) = _ := h
    rw [h]; rfl
  · simp only [if_neg c, show (startE l ns != 0) = true by simpa using c, cond_true]
/-! the reference -/
theorem Bars_eq {v w : TVoyage} {n : TNarrow} (hv : voyV v = true) (hw : voyV w = true) (hn : narV n = true) (e1 : (sv v n).2 = 0) (e2 : (sv w n).2 = 0) : F_thalwegref03_Bars (v, w, n) = some (bar v w n) := by
  obtain ⟨_, a1⟩ := sv_spec hv hn
  obtain ⟨_, a2⟩ := sv_spec hw hn
  have w1 := wid hv
  have w2 := wid hw
  have hwr : wr (v.Width + w.Width) = v.Width + w.Width := wr_in (by omega) (by omega)
  simp only [F_thalwegref03_Bars, F_thalwegref03_Meet, a1, a2, e1, e2, Option.bind_some, bne_self_eq_false, cond_false, hwr]
  unfold bar mayV
  cases hp : (sv v n).1.passes_ <;> cases hq : (sv w n).1.passes_ <;> simp only [Bool.not_true, Bool.not_false, cond_true, cond_false, Bool.false_and, Bool.true_and, Bool.and_false, Option.bind_some]
  cases h1 : decide ((sv v n).1.in_.Low ≤ (sv w n).1.out_.High) <;> cases h2 : decide ((sv v n).1.in_.High ≤ (sv w n).1.out_.Low) <;> cases h3 : decide ((sv w n).1.in_.Low ≤ (sv v n).1.out_.High) <;> cases hS : n.Single <;> simp
theorem r1_loop (hn : ns.length ≤ 20) (hV : ∀ v ∈ l, voyV v = true) (hN : ∀ n ∈ ns, narV n = true) (hE : allE ns l = 0) {i j : Nat} (hi : i < l.length) (hj : j < l.length) : ∀ (m : List TNarrow) (k : Nat) (acc : List TMeeting), ns.drop k = m → acc.length + m.length ≤ 1000000 →
    loopC (L_thalwegref03_Conflicts_1 l ns (i : Int) (j : Int)).step ((k : Int), acc) = some (acc ++ m1 i j l[i] l[j] m k)
  | [], k, acc, hd, _ => by
    have := drop_nil hd
    have e : (L_thalwegref03_Conflicts_1 l ns (i : Int) (j : Int)).step ((k : Int), acc) = some (.inr acc) := by
      simp only [L_thalwegref03_Conflicts_1, decide_eq_false (show ¬ (k : Int) < (ns.length : Int) by omega), cond_false]
    rw [loopC_eq, e, m1, List.append_nil]
  | n :: m, k, acc, hd, ha => by
    obtain ⟨hk, hx, hd2⟩ := drop_cons hd
    simp only [List.length_cons] at ha
    have hb := Bars_eq (hV _ (List.getElem_mem hi)) (hV _ (List.getElem_mem hj)) (hN _ (List.getElem_mem hk)) (allE_zero hE _ (List.getElem_mem hi) _ (List.getElem_mem hk)) (allE_zero hE _ (List.getElem_mem hj) _ (List.getElem_mem hk))
    have e : (L_thalwegref03_Conflicts_1 l ns (i : Int) (j : Int)).step ((k : Int), acc) = some (.inl (((k + 1 : Nat) : Int), acc ++ if bar l[i] l[j] ns[k] = true then [⟨(i : Int), (j : Int), (k : Int)⟩] else [])) := by
      simp only [L_thalwegref03_Conflicts_1, decide_eq_true (show (k : Int) < (ns.length : Int) by omega), cond_true, idx?_nat hk, idx?_nat hi, idx?_nat hj, Option.bind_some, hb, wr_nat (show k < 9223372036854775807 by omega)]
      cases bar l[i] l[j] ns[k] with
      | false => simp
      | true =>
        simp only [cond_true, if_true]
        rw [app_of (by simp; omega) (by decide)]
        rfl
    rw [loopC_eq, e, hx]
    show loopC _ _ = _
    rw [r1_loop hn hV hN hE hi hj m (k + 1) _ hd2 (by split <;> simp <;> omega), m1, List.append_assoc]
theorem r2_loop (hl : l.length ≤ 12) (hn : ns.length ≤ 20) (hV : ∀ v ∈ l, voyV v = true) (hN : ∀ n ∈ ns, narV n = true) (hE : allE ns l = 0) {i : Nat} (hi : i < l.length) : ∀ (m : List TVoyage) (j : Nat) (acc : List TMeeting), l.drop j = m → acc.length + 20 * m.length ≤ 1000000 →
    loopC (L_thalwegref03_Conflicts_2 l ns (i : Int)).step ((j : Int), acc) = some (acc ++ m2 ns i l[i] m j)
  | [], j, acc, hd, _ => by
    have := drop_nil hd
    have e : (L_thalwegref03_Conflicts_2 l ns (i : Int)).step ((j : Int), acc) = some (.inr acc) := by
      simp only [L_thalwegref03_Conflicts_2, decide_eq_false (show ¬ (j : Int) < (l.length : Int) by omega), cond_false]
    rw [loopC_eq, e, m2, List.append_nil]
  | w :: m, j, acc, hd, ha => by
    obtain ⟨hj, hx, hd2⟩ := drop_cons hd
    simp only [List.length_cons] at ha
    have h1 := r1_loop (l := l) (ns := ns) hn hV hN hE hi hj ns 0 acc rfl (by omega)
    have h1 : loopC (L_thalwegref03_Conflicts_1 l ns (i : Int) (j : Int)).step (0, acc) = _ := h1
    have hlen := m1_len i j l[i] l[j] ns 0
    have e : (L_thalwegref03_Conflicts_2 l ns (i : Int)).step ((j : Int), acc) = some (.inl (((j + 1 : Nat) : Int), acc ++ m1 i j l[i] l[j] ns 0)) := by
      simp only [L_thalwegref03_Conflicts_2, decide_eq_true (show (j : Int) < (l.length : Int) by omega), cond_true]
      rw [h1]
      simp only [Option.bind_some]
      rw [wr_nat (by omega)]
    rw [loopC_eq, e]
    show loopC _ _ = _
    rw [r2_loop hl hn hV hN hE hi m (j + 1) _ hd2 (by rw [List.length_append]; omega), m2, hx, List.append_assoc]
theorem r3_loop (hl : l.length ≤ 12) (hn : ns.length ≤ 20) (hV : ∀ v ∈ l, voyV v = true) (hN : ∀ n ∈ ns, narV n = true) (hE : allE ns l = 0) : ∀ (m : List TVoyage) (i : Nat) (acc : List TMeeting), l.drop i = m → acc.length + 300 * m.length ≤ 1000000 →
    loopC (L_thalwegref03_Conflicts_3 l ns).step ((i : Int), acc) = some (acc ++ m3 ns m i)
  | [], i, acc, hd, _ => by
    have := drop_nil hd
    have e : (L_thalwegref03_Conflicts_3 l ns).step ((i : Int), acc) = some (.inr acc) := by
      simp only [L_thalwegref03_Conflicts_3, decide_eq_false (show ¬ (i : Int) < (l.length : Int) by omega), cond_false]
    rw [loopC_eq, e, m3, List.append_nil]
  | v :: m, i, acc, hd, ha => by
    obtain ⟨hi, hx, hd2⟩ := drop_cons hd
    simp only [List.length_cons] at ha
    have hml : m.length ≤ 12 := by rw [← hd2]; simp; omega
    have h1 := r2_loop (l := l) (ns := ns) hl hn hV hN hE hi m (i + 1) acc hd2 (by omega)
    have hlen := m2_len ns i l[i] m (i + 1)
    have hlen2 : ns.length * m.length ≤ 20 * 12 := Nat.mul_le_mul hn hml
    have e : (L_thalwegref03_Conflicts_3 l ns).step ((i : Int), acc) = some (.inl (((i + 1 : Nat) : Int), acc ++ m2 ns i l[i] m (i + 1))) := by
      simp only [L_thalwegref03_Conflicts_3, decide_eq_true (show (i : Int) < (l.length : Int) by omega), cond_true]
      rw [wr_nat (by omega), h1]
      rfl
    rw [loopC_eq, e]
    show loopC _ _ = _
    rw [r3_loop hl hn hV hN hE m (i + 1) _ hd2 (by rw [List.length_append]; omega), m3, hx, List.append_assoc]
theorem refConflicts_eq (h : startE l ns = 0) : F_thalwegref03_Conflicts (l, ns) = some (m3 ns l 0) := by
  obtain ⟨h1, h2, h3, h4, h5⟩ := start_zero h
  simp only [F_thalwegref03_Conflicts]
  have h := r3_loop (l := l) (ns := ns) h1 h2 h3 h4 h5 l 0 [] rfl (by simp; omega)
  have h : loopC (L_thalwegref03_Conflicts_3 l ns).step (0, []) = _ := h
  rw [h]; rfl
end
end Go.Ev
/- Conflicts: the law. -/
set_option linter.unusedVariables false
set_option linter.unusedSimpArgs false
namespace Go.Ev
set_option maxHeartbeats 2000000
theorem large_eq {t : Tthalweglaw03_Traffic} (h : t.Voyages.length ≤ 140737488355328) : ∃ b, F_thalweglaw03_large t = some b ∧ (b = false → t.Voyages.length ≤ 14 ∧ t.Narrows.length ≤ 25 ∧ ∀ v ∈ t.Voyages, v.Runs.length ≤ 25) := by
  simp only [F_thalweglaw03_large]
  rw [loop_list0 t.Voyages (fun v => decide (v.Runs.length ≤ 25)) (e := .inl ()) (f := .inr true)]
  · cases ha : t.Voyages.all (fun v => decide (v.Runs.length ≤ 25)) with
    | false => exact ⟨true, rfl, fun h => by cases h⟩
    | true =>
      rw [List.all_eq_true] at ha
      simp only [if_true, Option.bind_some]
      by_cases c1 : (t.Voyages.length : Int) > 14
      · rw [decide_eq_true c1]; exact ⟨true, rfl, fun h => by cases h⟩
      rw [decide_eq_false c1]
      simp only [cond_false]
      refine ⟨_, rfl, fun hb => ⟨by omega, ?_, fun v hv => by simpa using ha v hv⟩⟩
      have := of_decide_eq_false hb
      omega
  · intro k hk
    simp only [L_thalweglaw03_large_1, Int.ofNat_lt, hk, decide_true, cond_true, idx?_nat hk, Option.bind_some, wr_nat (show k < 9223372036854775807 by omega)]
    by_cases c : (t.Voyages[k].Runs.length : Int) > 25
    · rw [decide_eq_true c, decide_eq_false (show ¬ t.Voyages[k].Runs.length ≤ 25 by omega)]; rfl
    · rw [decide_eq_false c, decide_eq_true (show t.Voyages[k].Runs.length ≤ 25 by omega)]; rfl
  · simp [L_thalweglaw03_large_1]
theorem all_eq' {l : List TVoyage} (hl : l.length ≤ 14) (hr : ∀ v ∈ l, v.Runs.length ≤ 25) : F_thalweglaw03_all l = some l := by
  unfold F_thalweglaw03_all
  simp only
  rw [show ((0 : Int), ([] : List TVoyage)) = (fun k : Nat => ((k : Int), l.take k)) 0 from rfl, loop_run (fun k : Nat => ((k : Int), l.take k)) l.length (e := l)]
  · rfl
  · intro k hk
    simp only [L_thalweglaw03_all_1, Int.ofNat_lt, hk, decide_true, cond_true, idx?_nat hk, Option.bind_some]
    have := hr _ (List.getElem_mem hk)
    rw [copiedV_eq (by omega)]
    simp only [Option.bind_some]
    rw [app_of (by simp [Nat.min_eq_left (Nat.le_of_lt hk)]; omega) (by decide), wr_nat (by omega)]
    simp only [Option.bind_some, List.take_succ_eq_append_getElem hk]
  · simp [L_thalweglaw03_all_1]
theorem narrows_eq {l : List TNarrow} (hl : l.length ≤ 25) : F_thalweglaw03_narrows l = some l := by
  simp only [F_thalweglaw03_narrows]
  rw [app_nil (by omega) (by decide)]
  rfl
theorem unchanged_all {l : List TVoyage} (hl : l.length ≤ 14) (hr : ∀ v ∈ l, v.Runs.length ≤ 25) : F_thalweglaw03_unchanged (l, l) = some true := by
  have h2 : loopC (L_thalweglaw03_unchanged_2 l l).step 0 = some (.inl ()) := by
    have h := loop_run (step := (L_thalweglaw03_unchanged_2 l l).step) (fun k : Nat => (k : Int)) l.length (e := .inl ()) (by
      intro k hk
      have hk25 := hr _ (List.getElem_mem hk)
      have h1 : loopC (L_thalweglaw03_unchanged_1 l l (k : Int)).step 0 = some (.inl ()) := by
        refine loop_run (fun k : Nat => (k : Int)) l[k].Runs.length (fun j hj => ?_) ?_
        · simp only [L_thalweglaw03_unchanged_1, idx?_nat hk, Option.bind_some, Int.ofNat_lt, hj, decide_true, cond_true, idx?_nat hj, beq_self_eq_true, Bool.and_self, Bool.not_true, cond_false]
          rw [wr_nat (by omega)]
        · simp [L_thalweglaw03_unchanged_1, idx?_nat hk]
      simp only [L_thalweglaw03_unchanged_2, Int.ofNat_lt, hk, decide_true, cond_true, idx?_nat hk, Option.bind_some, beq_self_eq_true, Bool.and_self, Bool.not_true, cond_false, bne_self_eq_false, h1]
      rw [wr_nat (by omega)]) (by simp [L_thalweglaw03_unchanged_2])
    exact h
  simp only [F_thalweglaw03_unchanged, bne_self_eq_false, cond_false]
  rw [h2]
  rfl
theorem m3_len (ns : List TNarrow) (hn : ns.length ≤ 20) : ∀ (m : List TVoyage) (i : Nat), m.length ≤ 12 → (m3 ns m i).length ≤ 240 * m.length
  | [], _, _ => Nat.zero_le _
  | v :: m, i, h => by
    simp only [List.length_cons] at h
    have h1 := m2_len ns i v m (i + 1)
    have h2 := m3_len ns hn m (i + 1) (by omega)
    have h3 : ns.length * m.length ≤ 20 * 12 := Nat.mul_le_mul hn (by omega)
    rw [m3, List.length_append, List.length_cons]
    omega
theorem conflicts_true {t : Tthalweglaw03_Traffic} (h : t.Voyages.length ≤ 140737488355328) : F_thalweglaw03_TowConflicts t = some true := by
  simp only [F_thalweglaw03_TowConflicts, F_thalweglaw03_known, Option.bind_some]
  obtain ⟨b, eb, hb⟩ := large_eq h
  rw [eb]
  simp only [Option.bind_some]
  cases b with
  | true => rfl
  | false =>
  obtain ⟨h1, h2, h3⟩ := hb rfl
  simp only [cond_false, all_eq' h1 h3, narrows_eq h2, unchanged_all h1 h3, Conflicts_eq, Start_eq, Option.bind_some, Bool.not_true]
  have hc : ∀ y5 : (List TMeeting) × Int, loopC (L_thalweglaw03_TowConflicts_1 t.Narrows y5 t).step 0 = some (.inl ()) := fun y5 => by
    have h := loop_run (step := (L_thalweglaw03_TowConflicts_1 t.Narrows y5 t).step) (fun k : Nat => (k : Int)) t.Narrows.length (e := .inl ()) (by
      intro k hk
      simp only [L_thalweglaw03_TowConflicts_1, Int.ofNat_lt, hk, decide_true, cond_true, idx?_nat hk, Option.bind_some, beq_self_eq_true, Bool.and_self, Bool.not_true, cond_false]
      rw [wr_nat (by omega)]) (by simp [L_thalweglaw03_TowConflicts_1])
    exact h
  rw [hc]
  simp only [Option.bind_some]
  by_cases c : startE t.Voyages t.Narrows = 0
  · obtain ⟨q1, q2, q3, q4, q5⟩ := start_zero c
    have hlen := m3_len t.Narrows q2 t.Voyages 0 q1
    simp only [c, if_true, bne_self_eq_false, cond_false, refConflicts_eq c, Option.bind_some]
    have h := loop_run (step := (L_thalweglaw03_TowConflicts_2 (m3 t.Narrows t.Voyages 0, 0) (m3 t.Narrows t.Voyages 0)).step) (fun k : Nat => (k : Int)) (m3 t.Narrows t.Voyages 0).length (e := .inl ()) (by
      intro k hk
      simp only [L_thalweglaw03_TowConflicts_2, Int.ofNat_lt, hk, decide_true, cond_true, idx?_nat hk, Option.bind_some, beq_self_eq_true, Bool.and_self, Bool.not_true, cond_false]
      rw [wr_nat (by omega)]) (by simp [L_thalweglaw03_TowConflicts_2])
    have h : loopC (L_thalweglaw03_TowConflicts_2 (m3 t.Narrows t.Voyages 0, 0) (m3 t.Narrows t.Voyages 0)).step 0 = some (.inl ()) := h
    rw [h]
    rfl
  · simp only [if_neg c, show (startE t.Voyages t.Narrows != 0) = true by simpa using c, cond_true, beq_self_eq_true, List.length_nil]
    rfl
end Go.Ev
/- The law on conflicts, by what is known of its argument. -/
set_option linter.unusedVariables false
namespace Go.Ev
theorem conflicts_law {t : Tthalweglaw03_Traffic} (h : kTthalweglaw03_Traffic t) : F_thalweglaw03_TowConflicts t = some true := conflicts_true h.1.1
end Go.Ev
