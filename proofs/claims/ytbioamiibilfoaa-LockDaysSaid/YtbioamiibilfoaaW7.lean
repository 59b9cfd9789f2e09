/- A part of the proof of LockDays. -/
import Derived.Test.YtbioamiibilfoaaW6
/- Chapter 4: what all laws of locks need. -/
set_option linter.unusedVariables false
set_option linter.unusedSimpArgs false
namespace Go.Ev
set_option maxHeartbeats 2000000
theorem every_int {l : List Int} {p : Int → Option Bool} {q : Int → Bool} {g : FuncId} {caps : List V} (hp : ∀ x ∈ l, p x = some (q x)) (hl : l.length ≤ 4611686018427387904) : F_numbers_Every_int (l, p, g, caps) = some (l.all q) := by
  unfold F_numbers_Every_int
  simp only
  rw [show (0 : Int) = ((0 : Nat) : Int) from rfl, loop_list l (fun k => (k : Int)) q (e := .inl ()) (f := .inr false)]
  · cases l.all q <;> rfl
  · intro k hk
    simp only [L_numbers_Every_int_1, Int.ofNat_lt, hk, decide_true, cond_true, idx?_nat hk, Option.bind_some, hp _ (List.getElem_mem hk), wr_nat (show k < 9223372036854775807 by omega)]
    cases q l[k] <;> rfl
  · simp [L_numbers_Every_int_1]
theorem bif_and (a b : Bool) : (bif a then some b else some false) = some (a && b) := by cases a <;> rfl
theorem bif_not (a b : Bool) : (bif (!a) then some false else some b) = some (a && b) := by cases a <;> rfl

theorem within1_eq (n a b : Int) : F_numbers_Within_1 (n, a, b) = some (inB n a b) := by
  simp only [F_numbers_Within_1, bif_and, inB]
theorem within_eq (a b : Int) (l : List Int) (hl : l.length ≤ 4611686018427387904) : F_numbers_Within (a, b, l) = some (l.all fun n => inB n a b) := by
  simp only [F_numbers_Within]
  rw [every_int (q := fun n => inB n a b) (fun x _ => within1_eq x a b) hl]
  rfl
theorem within1 (a b n : Int) : F_numbers_Within (a, b, [n]) = some (inB n a b) := by rw [within_eq _ _ _ (by simp)]; simp
theorem within2 (a b n m : Int) : F_numbers_Within (a, b, [n, m]) = some (inB n a b && inB m a b) := by rw [within_eq _ _ _ (by simp)]; simp
def vB (b : TBounds) (x y : Int) : Bool := decide (b.Low ≤ b.High) && (inB b.Low x y && inB b.High x y)
theorem valid_eq (b : TBounds) (x y : Int) : F_numbers_Valid (b, x, y) = some (vB b x y) := by
  simp only [F_numbers_Valid, within2, Option.bind_some, bif_and, vB]
theorem drop_cons {α : Type} {l m : List α} {k : Nat} {x : α} (h : l.drop k = x :: m) : ∃ hk : k < l.length, l[k] = x ∧ l.drop (k + 1) = m := by
  have hk : k < l.length := by
    rcases Nat.lt_or_ge k l.length with e | e
    · exact e
    · rw [List.drop_of_length_le e] at h; cases h
  rw [List.drop_eq_getElem_cons hk] at h
  cases h
  exact ⟨hk, rfl, rfl⟩
theorem drop_nil {α : Type} {l : List α} {k : Nat} (h : l.drop k = []) : l.length ≤ k := by
  have := congrArg List.length h
  simpa using Nat.le_of_sub_eq_zero (by simpa using this)

theorem loop_range {S E : Type} {step : S → Option (S ⊕ E)} (n : Nat) (st : Nat → S) (q : Nat → Bool) {e f : E} (h : ∀ k, k < n → step (st k) = some (if q k then .inl (st (k + 1)) else .inr f)) (he : step (st n) = some (.inr e)) :
    loopC step (st 0) = some (if (List.range n).all q then e else f) := by
  have := loop_list (List.range n) st q (e := e) (f := f) (step := step) (by intro k hk; simpa using h k (by simpa using hk)) (by simpa using he)
  exact this

theorem loop_range0 {E : Type} {step : Int → Option (Int ⊕ E)} (n : Nat) (q : Nat → Bool) {e f : E} (h : ∀ k : Nat, k < n → step (k : Int) = some (if q k then .inl ((k + 1 : Nat) : Int) else .inr f)) (he : step (n : Int) = some (.inr e)) : loopC step 0 = some (if (List.range n).all q then e else f) := loop_range n (fun k : Nat => (k : Int)) q h he
theorem loop_list0 {α E : Type} {step : Int → Option (Int ⊕ E)} (l : List α) (q : α → Bool) {e f : E} (h : ∀ (k : Nat) (hk : k < l.length), step (k : Int) = some (if q l[k] then .inl ((k + 1 : Nat) : Int) else .inr f)) (he : step (l.length : Int) = some (.inr e)) : loopC step 0 = some (if l.all q then e else f) := loop_list l (fun k : Nat => (k : Int)) q h he

/-! curves -/
theorem every_LockReach {l : List TLockReach} {p : TLockReach → Option Bool} {q : TLockReach → Bool} {g : FuncId} {caps : List V} (hp : ∀ x ∈ l, p x = some (q x)) (hl : l.length ≤ 4611686018427387904) : F_numbers_Every_LockReach (l, p, g, caps) = some (l.all q) := by
  unfold F_numbers_Every_LockReach
  simp only
  rw [show (0 : Int) = ((0 : Nat) : Int) from rfl, loop_list l (fun k => (k : Int)) q (e := .inl ()) (f := .inr false)]
  · cases l.all q <;> rfl
  · intro k hk
    simp only [L_numbers_Every_LockReach_1, Int.ofNat_lt, hk, decide_true, cond_true, idx?_nat hk, Option.bind_some, hp _ (List.getElem_mem hk), wr_nat (show k < 9223372036854775807 by omega)]
    cases q l[k] <;> rfl
  · simp [L_numbers_Every_LockReach_1]
theorem every_LockTraffic {l : List TLockTraffic} {p : TLockTraffic → Option Bool} {q : TLockTraffic → Bool} {g : FuncId} {caps : List V} (hp : ∀ x ∈ l, p x = some (q x)) (hl : l.length ≤ 4611686018427387904) : F_numbers_Every_LockTraffic (l, p, g, caps) = some (l.all q) := by
  unfold F_numbers_Every_LockTraffic
  simp only
  rw [show (0 : Int) = ((0 : Nat) : Int) from rfl, loop_list l (fun k => (k : Int)) q (e := .inl ()) (f := .inr false)]
  · cases l.all q <;> rfl
  · intro k hk
    simp only [L_numbers_Every_LockTraffic_1, Int.ofNat_lt, hk, decide_true, cond_true, idx?_nat hk, Option.bind_some, hp _ (List.getElem_mem hk), wr_nat (show k < 9223372036854775807 by omega)]
    cases q l[k] <;> rfl
  · simp [L_numbers_Every_LockTraffic_1]
end Go.Ev
/- Chapter 4: the law of a chain's days. -/
set_option linter.unusedVariables false
set_option linter.unusedSimpArgs false
namespace Go.Ev
set_option maxHeartbeats 2000000

theorem if_bif {α : Type} (b : Bool) (x y : α) : (if b then x else y) = bif b then x else y := by cases b <;> rfl
theorem rin_eq (n a b : Int) : F_thalwegref04_in (n, a, b) = some (inB n a b) := by
  simp only [F_thalwegref04_in, ge_iff_le, bif_and, inB]
def reachV (x : TLockReach) : Bool := (inB x.Volume 0 1000000000000 && inB x.Least 0 1000000000000) && vB x.Inflow 0 1000000000000
def traffV (x : TLockTraffic) : Bool := inB x.Fill 0 1000000 && vB x.Cycles 0 100
theorem validReach_eq (x : TLockReach) : F_lock_validReach x = some (reachV x) := by
  simp only [F_lock_validReach, within2, valid_eq, Option.bind_some, bif_and, reachV]
theorem validTraffic_eq (x : TLockTraffic) : F_lock_validTraffic x = some (traffV x) := by
  simp only [F_lock_validTraffic, within1, valid_eq, Option.bind_some, bif_and, traffV]
def chainE (a : List TLockReach) (b : List TLockTraffic) (d : Int) : Int :=
  bif decide ((a.length : Int) > 10) then 5 else bif ((a.length : Int) == 0) then 4 else bif ((b.length : Int) != wr ((a.length : Int) - 1)) then 4 else bif !a.all reachV then 2 else bif !b.all traffV then 2 else bif !inB d 0 60 then 3 else 0
theorem checkChain_eq {a : List TLockReach} {b : List TLockTraffic} (ha : a.length ≤ 1000) (hb : b.length ≤ 1000) (d : Int) : F_lock_checkChain (a, b, d) = some (chainE a b d) := by
  simp only [F_lock_checkChain, chainE]
  rw [every_LockReach (q := reachV) (fun x _ => validReach_eq x) (by omega), every_LockTraffic (q := traffV) (fun x _ => validTraffic_eq x) (by omega), within1]
  cases decide ((a.length : Int) > 10) <;> cases ((a.length : Int) == 0) <;> cases ((b.length : Int) != wr ((a.length : Int) - 1)) <;> cases a.all reachV <;> cases b.all traffV <;> cases inB d 0 60 <;> rfl
theorem vB_cut (b : TBounds) {y : Int} : (!decide (b.Low < 0) && (!decide (b.Low > b.High) && !decide (b.High > y))) = vB b 0 y := by
  rw [Bool.eq_iff_iff]
  simp only [vB, Bool.and_eq_true, Bool.not_eq_true', decide_eq_false_iff_not, decide_eq_true_eq, inB_iff]
  omega
theorem rchain_eq {a : List TLockReach} {b : List TLockTraffic} (ha : a.length ≤ 1000) (hb : b.length ≤ 1000) (d : Int) : F_thalwegref04_Chain (a, b, d) = some (chainE a b d) := by
  have l1 : loopC (L_thalwegref04_Chain_1 a b d).step 0 = some (if a.all reachV then .inl () else .inr 2) := by
    refine loop_list0 a reachV (fun k hk => ?_) ?_
    · rw [if_bif]
      simp only [L_thalwegref04_Chain_1, Int.ofNat_lt, hk, decide_true, cond_true, idx?_nat hk, Option.bind_some, rin_eq, reachV, ← vB_cut]
      rw [wr_nat (by omega)]
      cases inB a[k].Volume 0 1000000000000 <;> cases inB a[k].Least 0 1000000000000 <;> cases decide (a[k].Inflow.Low < 0) <;> cases decide (a[k].Inflow.Low > a[k].Inflow.High) <;> cases decide (a[k].Inflow.High > 1000000000000) <;> rfl
    · simp [L_thalwegref04_Chain_1]
  have l2 : loopC (L_thalwegref04_Chain_2 b d).step 0 = some (if b.all traffV then .inl () else .inr 2) := by
    refine loop_list0 b traffV (fun k hk => ?_) ?_
    · rw [if_bif]
      simp only [L_thalwegref04_Chain_2, Int.ofNat_lt, hk, decide_true, cond_true, idx?_nat hk, Option.bind_some, rin_eq, traffV, ← vB_cut]
      rw [wr_nat (by omega)]
      cases inB b[k].Fill 0 1000000 <;> cases decide (b[k].Cycles.Low < 0) <;> cases decide (b[k].Cycles.Low > b[k].Cycles.High) <;> cases decide (b[k].Cycles.High > 100) <;> rfl
    · simp [L_thalwegref04_Chain_2]
  simp only [F_thalwegref04_Chain, chainE]
  rw [l1, l2, rin_eq]
  cases decide ((a.length : Int) > 10) <;> cases ((a.length : Int) == 0) <;> cases ((b.length : Int) != wr ((a.length : Int) - 1)) <;> cases a.all reachV <;> cases b.all traffV <;> cases inB d 0 60 <;> rfl

structure Ch (a : List TLockReach) (b : List TLockTraffic) (d : Int) : Prop where
  few : 1 ≤ a.length ∧ a.length ≤ 10
  less : b.length + 1 = a.length
  vol : ∀ x ∈ a, (0 ≤ x.Volume ∧ x.Volume ≤ 1000000000000) ∧ (0 ≤ x.Inflow.Low ∧ x.Inflow.Low ≤ 1000000000000) ∧ (0 ≤ x.Inflow.High ∧ x.Inflow.High ≤ 1000000000000)
  fill : ∀ x ∈ b, (0 ≤ x.Fill ∧ x.Fill ≤ 1000000) ∧ (0 ≤ x.Cycles.Low ∧ x.Cycles.Low ≤ 100) ∧ (0 ≤ x.Cycles.High ∧ x.Cycles.High ≤ 100)
  days : 0 ≤ d ∧ d ≤ 60
theorem ch_of {a : List TLockReach} {b : List TLockTraffic} {d : Int} (h : chainE a b d = 0) : Ch a b d := by
  unfold chainE at h
  by_cases c1 : (a.length : Int) > 10
  · rw [decide_eq_true c1] at h; cases h
  · rw [decide_eq_false c1] at h
    by_cases c2 : (a.length : Int) = 0
    · rw [show ((a.length : Int) == 0) = true from by simpa using c2] at h; cases h
    · rw [show ((a.length : Int) == 0) = false from by rw [beq_eq_false_iff_ne]; exact c2, wr_in (n := (a.length : Int) - 1) (by omega) (by omega)] at h
      by_cases c3 : (b.length : Int) = (a.length : Int) - 1
      · rw [show ((b.length : Int) != (a.length : Int) - 1) = false from by rw [c3]; exact bne_self_eq_false _] at h
        cases h4 : a.all reachV with
        | false => rw [h4] at h; cases h
        | true =>
          cases h5 : b.all traffV with
          | false => rw [h4, h5] at h; cases h
          | true =>
            cases h6 : inB d 0 60 with
            | false => rw [h4, h5, h6] at h; cases h
            | true =>
              rw [List.all_eq_true] at h4 h5
              refine ⟨by omega, by omega, fun x hx => ?_, fun x hx => ?_, inB_iff.1 h6⟩
              · have := h4 x hx
                simp only [reachV, vB, Bool.and_eq_true, inB_iff, decide_eq_true_eq] at this
                exact ⟨this.1.1, this.2.2.1, this.2.2.2⟩
              · have := h5 x hx
                simp only [traffV, vB, Bool.and_eq_true, inB_iff, decide_eq_true_eq] at this
                exact ⟨this.1, this.2.2.1, this.2.2.2⟩
      · rw [show ((b.length : Int) != (a.length : Int) - 1) = true from by simpa using c3] at h; cases h
def reD (l : List TLockReach) (k : Nat) : TLockReach := l.getD k ⟨0, 0, ⟨0, 0⟩⟩
def trD (l : List TLockTraffic) (k : Nat) : TLockTraffic := l.getD k ⟨0, ⟨0, 0⟩⟩
theorem reD_get {l : List TLockReach} {k : Nat} (h : k < l.length) : l[k] = reD l k := by simp [reD, h]
theorem trD_get {l : List TLockTraffic} {k : Nat} (h : k < l.length) : l[k] = trD l k := by simp [trD, h]
def mvB (x : TLockTraffic) : TBounds := ⟨x.Fill * x.Cycles.Low, x.Fill * x.Cycles.High⟩
def upB (b : List TLockTraffic) (i : Nat) : TBounds := if 0 < i then mvB (trD b (i - 1)) else ⟨0, 0⟩
def outB (b : List TLockTraffic) (i : Nat) : TBounds := if i < b.length then mvB (trD b i) else ⟨0, 0⟩
def chB (a : List TLockReach) (b : List TLockTraffic) (i : Nat) : TBounds := ⟨(reD a i).Inflow.Low + (upB b i).Low - (outB b i).High, (reD a i).Inflow.High + (upB b i).High - (outB b i).Low⟩
def volB (a : List TLockReach) (b : List TLockTraffic) (i d : Nat) : TBounds := ⟨(reD a i).Volume + d * (chB a b i).Low, (reD a i).Volume + d * (chB a b i).High⟩
theorem pos_mul {a b A B : Int} (ha : 0 ≤ a ∧ a ≤ A) (hb : 0 ≤ b ∧ b ≤ B) : 0 ≤ a * b ∧ a * b ≤ A * B :=
  ⟨Int.mul_nonneg ha.1 hb.1, Int.mul_le_mul ha.2 hb.2 hb.1 (Int.le_trans ha.1 ha.2)⟩
section
variable {a : List TLockReach} {b : List TLockTraffic} {D : Int}
theorem mv_in (h : Ch a b D) {i : Nat} (hi : i < b.length) : (0 ≤ (mvB (trD b i)).Low ∧ (mvB (trD b i)).Low ≤ 100000000) ∧ (0 ≤ (mvB (trD b i)).High ∧ (mvB (trD b i)).High ≤ 100000000) ∧ F_lock_moved (trD b i) = some (mvB (trD b i)) := by
  obtain ⟨h1, h2, h3⟩ := h.fill _ (List.getElem_mem hi)
  rw [trD_get hi] at h1 h2 h3
  have g1 := pos_mul h1 h2
  have g2 := pos_mul h1 h3
  refine ⟨by simp only [mvB]; omega, by simp only [mvB]; omega, ?_⟩
  simp only [F_lock_moved]
  rw [wr_in (n := (trD b i).Fill * (trD b i).Cycles.Low) (by omega) (by omega), wr_in (n := (trD b i).Fill * (trD b i).Cycles.High) (by omega) (by omega)]
  rfl
theorem up_in (h : Ch a b D) {i : Nat} (hi : i < a.length) : (0 ≤ (upB b i).Low ∧ (upB b i).Low ≤ 100000000) ∧ 0 ≤ (upB b i).High ∧ (upB b i).High ≤ 100000000 := by
  have hl := h.less
  unfold upB
  split
  · have := mv_in h (i := i - 1) (by omega); exact ⟨this.1, this.2.1⟩
  · simp
theorem out_in (h : Ch a b D) (i : Nat) : (0 ≤ (outB b i).Low ∧ (outB b i).Low ≤ 100000000) ∧ 0 ≤ (outB b i).High ∧ (outB b i).High ≤ 100000000 := by
  unfold outB
  split
  · next hi => have := mv_in h hi; exact ⟨this.1, this.2.1⟩
  · simp
theorem ch_in (h : Ch a b D) {i : Nat} (hi : i < a.length) : (-100000000 ≤ (chB a b i).Low ∧ (chB a b i).Low ≤ 1000100000000) ∧ -100000000 ≤ (chB a b i).High ∧ (chB a b i).High ≤ 1000100000000 := by
  obtain ⟨_, h2, h3⟩ := h.vol _ (List.getElem_mem hi)
  rw [reD_get hi] at h2 h3
  have := up_in h hi
  have := out_in h i
  simp only [chB]
  omega
theorem Sum2 {p q : TBounds} (h1 : -1000000000000000 ≤ p.Low ∧ p.Low ≤ 1000000000000000) (h2 : -1000000000000000 ≤ p.High ∧ p.High ≤ 1000000000000000) (h3 : -1000000000000000 ≤ q.Low ∧ q.Low ≤ 1000000000000000) (h4 : -1000000000000000 ≤ q.High ∧ q.High ≤ 1000000000000000) : F_numbers_Sum [p, q] = some ⟨p.Low + q.Low, p.High + q.High⟩ := by
  have e1 : (L_numbers_Sum_1 [p, q]).step (0, 0, 0) = some (.inl (1, p.Low, p.High)) := by
    have : idx? [p, q] 0 = some p := idx?_nat (l := [p, q]) (k := 0) (by simp)
    simp only [L_numbers_Sum_1, this, Option.bind_some]
    rw [wr_in (n := 0 + p.Low) (by omega) (by omega), wr_in (n := 0 + p.High) (by omega) (by omega)]
    simp only [Int.zero_add]
    rfl
  have e2 : (L_numbers_Sum_1 [p, q]).step (1, p.Low, p.High) = some (.inl (2, p.Low + q.Low, p.High + q.High)) := by
    have : idx? [p, q] 1 = some q := idx?_nat (l := [p, q]) (k := 1) (by simp)
    simp only [L_numbers_Sum_1, this, Option.bind_some]
    rw [wr_in (n := p.Low + q.Low) (by omega) (by omega), wr_in (n := p.High + q.High) (by omega) (by omega)]
    rfl
  have e3 : (L_numbers_Sum_1 [p, q]).step (2, p.Low + q.Low, p.High + q.High) = some (.inr (p.Low + q.Low, p.High + q.High)) := rfl
  simp only [F_numbers_Sum]
  rw [loopC_eq, e1]
  simp only
  rw [loopC_eq, e2]
  simp only
  rw [loopC_eq, e3]
  rfl
theorem change_eq (h : Ch a b D) {i : Nat} (hi : i < a.length) : F_lock_change (a, b, (i : Int)) = some (chB a b i) := by
  have hl := h.less
  have hf := h.few
  obtain ⟨_, h2, h3⟩ := h.vol _ (List.getElem_mem hi)
  rw [reD_get hi] at h2 h3
  simp only [F_lock_change, idx?_nat hi, Option.bind_some, reD_get hi]
  by_cases c1 : 0 < i
  · have hi1 : i - 1 < b.length := by omega
    have e : wr ((i : Int) - 1) = ((i - 1 : Nat) : Int) := by rw [wr_in (by omega) (by omega)]; omega
    obtain ⟨m1, m2, m3⟩ := mv_in h hi1
    rw [decide_eq_true (show (i : Int) > 0 by omega), e, idx?_nat hi1, trD_get hi1]
    simp only [cond_true, Option.bind_some, m3]
    rw [Sum2 (by omega) (by omega) (by omega) (by omega)]
    simp only [Option.bind_some]
    by_cases c2 : i < b.length
    · obtain ⟨o1, o2, o3⟩ := mv_in h c2
      rw [decide_eq_true (show (i : Int) < (b.length : Int) by omega), idx?_nat c2, trD_get c2]
      simp only [cond_true, Option.bind_some, o3]
      rw [wr_in (n := 0 - (mvB (trD b i)).High) (by omega) (by omega), wr_in (n := 0 - (mvB (trD b i)).Low) (by omega) (by omega), Sum2 (by simp only; omega) (by simp only; omega) (by simp only; omega) (by simp only; omega)]
      simp only [Option.bind_some, chB, upB, outB, if_pos c1, if_pos c2, Option.some.injEq, TBounds.mk.injEq]
      omega
    · rw [decide_eq_false (show ¬ (i : Int) < (b.length : Int) by omega)]
      simp only [cond_false, chB, upB, outB, if_pos c1, if_neg c2, Int.sub_zero]
  · rw [decide_eq_false (show ¬ (i : Int) > 0 by omega)]
    simp only [cond_false]
    by_cases c2 : i < b.length
    · obtain ⟨o1, o2, o3⟩ := mv_in h c2
      rw [decide_eq_true (show (i : Int) < (b.length : Int) by omega), idx?_nat c2, trD_get c2]
      simp only [cond_true, Option.bind_some, o3]
      rw [wr_in (n := 0 - (mvB (trD b i)).High) (by omega) (by omega), wr_in (n := 0 - (mvB (trD b i)).Low) (by omega) (by omega), Sum2 (by omega) (by omega) (by simp only; omega) (by simp only; omega)]
      simp only [Option.bind_some, chB, upB, outB, if_neg c1, if_pos c2, Option.some.injEq, TBounds.mk.injEq]
      omega
    · rw [decide_eq_false (show ¬ (i : Int) < (b.length : Int) by omega)]
      simp only [cond_false, chB, upB, outB, if_neg c1, if_neg c2, Int.sub_zero, Int.add_zero]
theorem vol_in (h : Ch a b D) {i d : Nat} (hi : i < a.length) (hd : d ≤ 61) : (-100000000000 ≤ (volB a b i d).Low ∧ (volB a b i d).Low ≤ 100000000000000) ∧ -100000000000 ≤ (volB a b i d).High ∧ (volB a b i d).High ≤ 100000000000000 := by
  obtain ⟨h1, _, _⟩ := h.vol _ (List.getElem_mem hi)
  rw [reD_get hi] at h1
  have hc := ch_in h hi
  have p1 := pos_mul (a := (d : Int)) (b := (chB a b i).Low + 100000000) (A := 61) (B := 1000200000000) (by omega) (by omega)
  have p2 := pos_mul (a := (d : Int)) (b := (chB a b i).High + 100000000) (A := 61) (B := 1000200000000) (by omega) (by omega)
  rw [Int.mul_add] at p1 p2
  simp only [volB]
  omega
theorem rVolume_eq (h : Ch a b D) {i d : Nat} (hi : i < a.length) (hd : d ≤ 61) : F_thalwegref04_Volume (a, b, (i : Int), (d : Int)) = some (volB a b i d) := by
  have hl := h.less
  have hf := h.few
  obtain ⟨h1, h2, h3⟩ := h.vol _ (List.getElem_mem hi)
  rw [reD_get hi] at h1 h2 h3
  have q1 := pos_mul (a := (d : Int)) (b := (reD a i).Inflow.Low) (A := 61) (B := 1000000000000) (by omega) h2
  have q2 := pos_mul (a := (d : Int)) (b := (reD a i).Inflow.High) (A := 61) (B := 1000000000000) (by omega) h3
  have prod : ∀ k, k < b.length → wr (wr ((d : Int) * (trD b k).Fill) * (trD b k).Cycles.Low) = (d : Int) * (mvB (trD b k)).Low ∧ wr (wr ((d : Int) * (trD b k).Fill) * (trD b k).Cycles.High) = (d : Int) * (mvB (trD b k)).High ∧ (0 ≤ (d : Int) * (mvB (trD b k)).Low ∧ (d : Int) * (mvB (trD b k)).Low ≤ 6100000000) ∧ (0 ≤ (d : Int) * (mvB (trD b k)).High ∧ (d : Int) * (mvB (trD b k)).High ≤ 6100000000) := by
    intro k hk
    obtain ⟨m1, m2, m3⟩ := mv_in h hk
    obtain ⟨f1, f2, f3⟩ := h.fill _ (List.getElem_mem hk)
    rw [trD_get hk] at f1
    have g0 := pos_mul (a := (d : Int)) (b := (trD b k).Fill) (A := 61) (B := 1000000) (by omega) f1
    have g1 := pos_mul (a := (d : Int)) (b := (mvB (trD b k)).Low) (A := 61) (B := 100000000) (by omega) m1
    have g2 := pos_mul (a := (d : Int)) (b := (mvB (trD b k)).High) (A := 61) (B := 100000000) (by omega) m2
    have e1 : (d : Int) * (trD b k).Fill * (trD b k).Cycles.Low = (d : Int) * (mvB (trD b k)).Low := Int.mul_assoc _ _ _
    have e2 : (d : Int) * (trD b k).Fill * (trD b k).Cycles.High = (d : Int) * (mvB (trD b k)).High := Int.mul_assoc _ _ _
    rw [wr_in (n := (d : Int) * (trD b k).Fill) (by omega) (by omega), e1, e2]
    exact ⟨wr_in (by omega) (by omega), wr_in (by omega) (by omega), by omega, by omega⟩
  simp only [F_thalwegref04_Volume, idx?_nat hi, Option.bind_some, reD_get hi]
  rw [wr_in (n := (d : Int) * (reD a i).Inflow.Low) (by omega) (by omega), wr_in (n := (d : Int) * (reD a i).Inflow.High) (by omega) (by omega), wr_in (n := (reD a i).Volume + (d : Int) * (reD a i).Inflow.Low) (by omega) (by omega), wr_in (n := (reD a i).Volume + (d : Int) * (reD a i).Inflow.High) (by omega) (by omega)]
  have e : 0 < i → wr ((i : Int) - 1) = ((i - 1 : Nat) : Int) := fun c => by rw [wr_in (by omega) (by omega)]; omega
  by_cases c2 : i < b.length
  · obtain ⟨o1, o2, o3, o4⟩ := prod i c2
    rw [decide_eq_true (show (i : Int) < (b.length : Int) by omega), idx?_nat c2, trD_get c2]
    simp only [cond_true, Option.bind_some, o1, o2]
    rw [wr_in (n := (reD a i).Volume + (d : Int) * (reD a i).Inflow.Low - (d : Int) * (mvB (trD b i)).High) (by omega) (by omega), wr_in (n := (reD a i).Volume + (d : Int) * (reD a i).Inflow.High - (d : Int) * (mvB (trD b i)).Low) (by omega) (by omega)]
    by_cases c1 : 0 < i
    · have hi1 : i - 1 < b.length := by omega
      obtain ⟨u1, u2, u3, u4⟩ := prod (i - 1) hi1
      rw [decide_eq_true (show (i : Int) > 0 by omega), e c1, idx?_nat hi1, trD_get hi1]
      simp only [cond_true, Option.bind_some, u1, u2]
      rw [wr_in (by omega) (by omega), wr_in (by omega) (by omega)]
      simp only [volB, chB, upB, outB, if_pos c1, if_pos c2, Int.mul_add, Int.mul_sub, Option.some.injEq, TBounds.mk.injEq]
      omega
    · rw [decide_eq_false (show ¬ (i : Int) > 0 by omega)]
      simp only [cond_false, volB, chB, upB, outB, if_neg c1, if_pos c2, Int.mul_add, Int.mul_sub, Option.some.injEq, TBounds.mk.injEq]
      omega
  · rw [decide_eq_false (show ¬ (i : Int) < (b.length : Int) by omega)]
    simp only [cond_false]
    by_cases c1 : 0 < i
    · have hi1 : i - 1 < b.length := by omega
      obtain ⟨u1, u2, u3, u4⟩ := prod (i - 1) hi1
      rw [decide_eq_true (show (i : Int) > 0 by omega), e c1, idx?_nat hi1, trD_get hi1]
      simp only [cond_true, Option.bind_some, u1, u2]
      rw [wr_in (by omega) (by omega), wr_in (by omega) (by omega)]
      simp only [volB, chB, upB, outB, if_pos c1, if_neg c2, Int.mul_add, Int.mul_sub, Option.some.injEq, TBounds.mk.injEq]
      omega
    · rw [decide_eq_false (show ¬ (i : Int) > 0 by omega)]
      simp only [cond_false, volB, chB, upB, outB, if_neg c1, if_neg c2, Int.mul_add, Int.mul_sub, Option.some.injEq, TBounds.mk.injEq]
      omega
end
end Go.Ev
/- Chapter 4: the law of a chain's days: days, and the first that is short. -/
set_option linter.unusedVariables false
set_option linter.unusedSimpArgs false
namespace Go.Ev
set_option maxHeartbeats 2000000

theorem set?_nat {α : Type} {l : List α} {k : Nat} (h : k < l.length) (y : α) : set? l (k : Int) y = some (l.set k y) := by
  unfold set?
  rw [if_pos (by omega)]
  simp
theorem take_set {α : Type} {A B : List α} (h : A.length = B.length) {k : Nat} (hk : k < A.length) : (A.take k ++ B.drop k).set k A[k] = A.take (k + 1) ++ B.drop (k + 1) := by
  have hb : k < B.length := by omega
  rw [List.set_append_right _ _ (by simp; omega), List.drop_eq_getElem_cons hb, show k - (A.take k).length = 0 by simp; omega, List.set_cons_zero, List.take_succ_eq_append_getElem hk, List.append_assoc, List.cons_append, List.nil_append]
theorem mid_get {α : Type} {A B : List α} (h : A.length = B.length) {k : Nat} (hk : k < B.length) : (A.take k ++ B.drop k)[k]'(by simp; omega) = B[k] := by
  rw [List.getElem_append_right (by simp; omega)]
  simp [show min k A.length = k by omega]
section
variable {a : List TLockReach} {b : List TLockTraffic} {D : Int}
def vols (a : List TLockReach) (b : List TLockTraffic) (d : Nat) : List TBounds := (List.range a.length).map fun i => volB a b i d
theorem vols_len (a : List TLockReach) (b : List TLockTraffic) (d : Nat) : (vols a b d).length = a.length := by simp [vols]
theorem vols_get {d k : Nat} (hk : k < (vols a b d).length) : (vols a b d)[k] = volB a b k d := by simp [vols]
def endsD (a : List TLockReach) (b : List TLockTraffic) (n : Nat) : List (List TBounds) := (List.range n).map fun d => vols a b (d + 1)
theorem day0 (h : Ch a b D) {l : List TBounds} (hl : l.length = a.length) : loopC (L_lock_Days_1 a b D).step (0, l) = some (vols a b 0) := by
  have hf := h.few
  rw [show ((0 : Int), l) = (fun k : Nat => ((k : Int), (vols a b 0).take k ++ l.drop k)) 0 from by simp]
  refine loop_run (fun k : Nat => ((k : Int), (vols a b 0).take k ++ l.drop k)) a.length (e := vols a b 0) (fun k hk => ?_) ?_
  · have hv := vols_len a b 0
    have hlen : k < ((vols a b 0).take k ++ l.drop k).length := by simp; omega
    simp only [L_lock_Days_1, Int.ofNat_lt, hk, decide_true, cond_true, idx?_nat hk, Option.bind_some, idx?_nat hlen, set?_nat hlen]
    have e : (⟨a[k].Volume, a[k].Volume⟩ : TBounds) = (vols a b 0)[k]'(by omega) := by
      rw [vols_get, reD_get hk]; simp [volB]
    rw [e, take_set (by omega) (by omega), wr_nat (by omega)]
  · have hv := vols_len a b 0
    simp only [L_lock_Days_1]
    rw [decide_eq_false (by omega), List.take_of_length_le (by omega), List.drop_of_length_le (by omega), List.append_nil]
    rfl
theorem day_step (h : Ch a b D) {d : Nat} (hd : d ≤ 60) (s14 : Int) (s16 : List (List TBounds)) : loopC (L_lock_Days_2 a b D s14 s16).step (0, vols a b d) = some (vols a b (d + 1)) := by
  have hf := h.few
  have hv := vols_len a b d
  have hv1 := vols_len a b (d + 1)
  rw [show ((0 : Int), vols a b d) = (fun k : Nat => ((k : Int), (vols a b (d + 1)).take k ++ (vols a b d).drop k)) 0 from by simp]
  refine loop_run (fun k : Nat => ((k : Int), (vols a b (d + 1)).take k ++ (vols a b d).drop k)) a.length (e := vols a b (d + 1)) (fun k hk => ?_) ?_
  · have hlen : k < ((vols a b (d + 1)).take k ++ (vols a b d).drop k).length := by simp; omega
    have hvi := vol_in h (i := k) (d := d) hk (by omega)
    have hci := ch_in h (i := k) hk
    simp only [L_lock_Days_2, Int.ofNat_lt, hk, decide_true, cond_true, idx?_nat hlen, Option.bind_some, change_eq h hk, set?_nat hlen]
    rw [mid_get (by omega) (by omega), vols_get, Sum2 (by omega) (by omega) (by omega) (by omega)]
    simp only [Option.bind_some]
    have e : (⟨(volB a b k d).Low + (chB a b k).Low, (volB a b k d).High + (chB a b k).High⟩ : TBounds) = (vols a b (d + 1))[k]'(by omega) := by
      rw [vols_get]
      simp only [volB, TBounds.mk.injEq]
      have e1 : ((d + 1 : Nat) : Int) * (chB a b k).Low = d * (chB a b k).Low + (chB a b k).Low := by
        rw [show ((d + 1 : Nat) : Int) = (d : Int) + 1 by omega, Int.add_mul, Int.one_mul]
      have e2 : ((d + 1 : Nat) : Int) * (chB a b k).High = d * (chB a b k).High + (chB a b k).High := by
        rw [show ((d + 1 : Nat) : Int) = (d : Int) + 1 by omega, Int.add_mul, Int.one_mul]
      omega
    rw [e, take_set (by omega) (by omega), wr_nat (by omega)]
  · simp only [L_lock_Days_2]
    rw [decide_eq_false (by omega), List.take_of_length_le (by omega), List.drop_of_length_le (by omega), List.append_nil]
    rfl
theorem Days_eq {N : Nat} (h : Ch a b (N : Int)) (hz : chainE a b (N : Int) = 0) : F_lock_Days (a, b, (N : Int)) = some (endsD a b N, 0) := by
  have hf := h.few
  have hl := h.less
  have hd := h.days
  simp only [F_lock_Days, checkChain_eq (show a.length ≤ 1000 by omega) (show b.length ≤ 1000 by omega), hz, Option.bind_some, bne_self_eq_false, cond_false]
  have hmk : mk? (⟨0, 0⟩ : TBounds) ((a.length : Nat) : Int) 16 = some (List.replicate a.length ⟨0, 0⟩) := by
    unfold mk?
    rw [if_pos (by omega)]
    simp
  rw [hmk]
  simp only [Option.bind_some]
  rw [day0 h (by simp)]
  simp only [Option.bind_some]
  have h3 : loopC (L_lock_Days_3 a b (N : Int)).step (0, vols a b 0, []) = some (endsD a b N) := by
    rw [show ((0 : Int), vols a b 0, ([] : List (List TBounds))) = (fun k : Nat => ((k : Int), vols a b k, endsD a b k)) 0 from rfl]
    refine loop_run (fun k : Nat => ((k : Int), vols a b k, endsD a b k)) N (e := endsD a b N) (fun k hk => ?_) ?_
    · have hv1 := vols_len a b (k + 1)
      simp only [L_lock_Days_3, Int.ofNat_lt, hk, decide_true, cond_true, day_step h (show k ≤ 60 by omega), Option.bind_some, F_slices_Clone_L_Bounds_Bounds]
      rw [app_nil (m := vols a b (k + 1)) (by omega) (by decide)]
      simp only [Option.bind_some]
      rw [app_of (by simp [endsD]; omega) (by decide), wr_nat (by omega)]
      simp only [Option.bind_some, endsD, List.range_succ, List.map_append, List.map_cons, List.map_nil]
    · simp only [L_lock_Days_3]
      rw [decide_eq_false (by omega)]
      rfl
  rw [h3]
  rfl
theorem Days_bad (ha : a.length ≤ 1000) (hb : b.length ≤ 1000) (hz : chainE a b D ≠ 0) : F_lock_Days (a, b, D) = some ([], chainE a b D) := by
  simp only [F_lock_Days, checkChain_eq ha hb, Option.bind_some, show (chainE a b D != 0) = true from by simpa using hz, cond_true]
theorem Short_bad (ha : a.length ≤ 1000) (hb : b.length ≤ 1000) (hz : chainE a b D ≠ 0) : F_lock_Short (a, b, D) = some (0, 0, false, chainE a b D) := by
  simp only [F_lock_Short, Days_bad ha hb hz, Option.bind_some]
  have : loopC (L_lock_Short_2 a ([], chainE a b D)).step 0 = some (.inl ()) := by
    rw [loopC_eq]; rfl
  rw [this]
  rfl
def outP : Option (Int × Int × Bool) → Unit ⊕ (Int × Int × Bool × Int)
  | none => .inl ()
  | some (d, i, s) => .inr (d, i, s, 0)
def outR : Option (Int × Int × Bool) → Unit ⊕ (Int × Int × Bool)
  | none => .inl ()
  | some r => .inr r
def nxtP (d : Nat) : Option (Int × Int × Bool) → Option (Int ⊕ (Unit ⊕ (Int × Int × Bool × Int)))
  | none => some (.inl (d : Int))
  | some (x, i, s) => some (.inr (.inr (x, i, s, 0)))
def nxtR (d : Nat) : Option (Int × Int × Bool) → Option (Int ⊕ (Unit ⊕ (Int × Int × Bool)))
  | none => some (.inl (d : Int))
  | some r => some (.inr (.inr r))
def finP : Option (Int × Int × Bool) → Int × Int × Bool × Int
  | none => (0, 0, false, 0)
  | some (x, i, s) => (x, i, s, 0)
def finR : Option (Int × Int × Bool) → Int × Int × Bool
  | none => (0, 0, false)
  | some r => r
theorem short_in {N : Nat} (h : Ch a b (N : Int)) (y1 : List (List TBounds) × Int) (d : Nat) (hd : d < N) : ∀ (m k : Nat), k + m = a.length →
    ∃ o, loopC (L_lock_Short_1 a y1 (d : Int) (vols a b (d + 1))).step (k : Int) = some (outP o) ∧ loopC (L_thalwegref04_Short_1 a b (N : Int) ((d + 1 : Nat) : Int)).step (k : Int) = some (outR o)
  | 0, k, hk => by
    have hv := vols_len a b (d + 1)
    refine ⟨none, ?_, ?_⟩
    · rw [loopC_eq]
      simp only [L_lock_Short_1]
      rw [decide_eq_false (by omega)]
      rfl
    · rw [loopC_eq]
      simp only [L_thalwegref04_Short_1]
      rw [decide_eq_false (by omega)]
      rfl
  | m + 1, k, hk => by
    have hv := vols_len a b (d + 1)
    have hf := h.few
    have hdd := h.days
    have hka : k < a.length := by omega
    have hkv : k < (vols a b (d + 1)).length := by omega
    obtain ⟨o, e1, e2⟩ := short_in h y1 d hd m (k + 1) (by omega)
    have s1 : (L_lock_Short_1 a y1 (d : Int) (vols a b (d + 1))).step (k : Int) = some (bif decide ((volB a b k (d + 1)).Low < (reD a k).Least) then .inr (.inr (((d + 1 : Nat) : Int), (k : Int), decide ((volB a b k (d + 1)).High < (reD a k).Least), 0)) else .inl ((k + 1 : Nat) : Int)) := by
      simp only [L_lock_Short_1]
      rw [decide_eq_true (show (k : Int) < ((vols a b (d + 1)).length : Int) by omega), idx?_nat hkv, idx?_nat hka, vols_get, reD_get hka, wr_nat (by omega), wr_nat (by omega)]
      simp only [cond_true, Option.bind_some]
      cases decide ((volB a b k (d + 1)).Low < (reD a k).Least) <;> rfl
    have s2 : (L_thalwegref04_Short_1 a b (N : Int) ((d + 1 : Nat) : Int)).step (k : Int) = some (bif decide ((volB a b k (d + 1)).Low < (reD a k).Least) then .inr (.inr (((d + 1 : Nat) : Int), (k : Int), decide ((volB a b k (d + 1)).High < (reD a k).Least))) else .inl ((k + 1 : Nat) : Int)) := by
      simp only [L_thalwegref04_Short_1]
      rw [decide_eq_true (show (k : Int) < (a.length : Int) by omega), rVolume_eq h hka (show d + 1 ≤ 61 by omega), idx?_nat hka, reD_get hka, wr_nat (by omega)]
      simp only [cond_true, Option.bind_some]
      cases decide ((volB a b k (d + 1)).Low < (reD a k).Least) <;> rfl
    cases hc : decide ((volB a b k (d + 1)).Low < (reD a k).Least) with
    | true =>
      rw [hc] at s1 s2
      exact ⟨some (((d + 1 : Nat) : Int), (k : Int), decide ((volB a b k (d + 1)).High < (reD a k).Least)), by rw [loopC_eq, s1]; rfl, by rw [loopC_eq, s2]; rfl⟩
    | false =>
      rw [hc] at s1 s2
      exact ⟨o, by rw [loopC_eq, s1]; exact e1, by rw [loopC_eq, s2]; exact e2⟩
theorem short_out {N : Nat} (h : Ch a b (N : Int)) : ∀ (m d : Nat), d + m = N →
    ∃ o, loopC (L_lock_Short_2 a (endsD a b N, 0)).step (d : Int) = some (outP o) ∧ loopC (L_thalwegref04_Short_2 a b (N : Int)).step ((d + 1 : Nat) : Int) = some (outR o)
  | 0, d, hd => by
    refine ⟨none, ?_, ?_⟩
    · rw [loopC_eq]
      simp only [L_lock_Short_2, endsD, List.length_map, List.length_range]
      rw [decide_eq_false (by omega)]
      rfl
    · rw [loopC_eq]
      simp only [L_thalwegref04_Short_2]
      rw [decide_eq_false (by omega)]
      rfl
  | m + 1, d, hd => by
    have hdd := h.days
    obtain ⟨o, e1, e2⟩ := short_out h m (d + 1) (by omega)
    obtain ⟨o', i1, i2⟩ := short_in h (endsD a b N, 0) d (by omega) a.length 0 (by omega)
    have i1 : loopC (L_lock_Short_1 a (endsD a b N, 0) (d : Int) (vols a b (d + 1))).step 0 = _ := i1
    have i2 : loopC (L_thalwegref04_Short_1 a b (N : Int) ((d + 1 : Nat) : Int)).step 0 = _ := i2
    have hlen : d < (endsD a b N).length := by simp [endsD]; omega
    have hget : (endsD a b N)[d] = vols a b (d + 1) := by simp [endsD]
    have s1 : (L_lock_Short_2 a (endsD a b N, 0)).step (d : Int) = nxtP (d + 1) o' := by
      simp only [L_lock_Short_2]
      rw [decide_eq_true (show (d : Int) < ((endsD a b N).length : Int) by omega), idx?_nat hlen, hget]
      simp only [cond_true, Option.bind_some]
      rw [i1, wr_nat (by omega)]
      cases o' <;> rfl
    have s2 : (L_thalwegref04_Short_2 a b (N : Int)).step ((d + 1 : Nat) : Int) = nxtR (d + 1 + 1) o' := by
      simp only [L_thalwegref04_Short_2]
      rw [decide_eq_true (show ((d + 1 : Nat) : Int) ≤ (N : Int) by omega), i2, wr_nat (k := d + 1) (by omega)]
      simp only [cond_true, Option.bind_some]
      cases o' <;> rfl
    cases o' with
    | none => exact ⟨o, by rw [loopC_eq, s1]; exact e1, by rw [loopC_eq, s2]; exact e2⟩
    | some r => exact ⟨some r, by rw [loopC_eq, s1]; rfl, by rw [loopC_eq, s2]; rfl⟩
theorem knownL_eq : F_thalweglaw04_known () = some true := rfl
theorem Ch.nat (h : Ch a b D) : ∃ N : Nat, D = (N : Int) := Int.eq_ofNat_of_zero_le h.days.1
end
theorem days_true (a : List TLockReach) (b : List TLockTraffic) (D : Int) : F_thalweglaw04_LockDays (a, b, D) = some true := by
  simp only [F_thalweglaw04_LockDays, knownL_eq, Option.bind_some]
  by_cases c1 : (a.length : Int) > 12
  · rw [decide_eq_true c1]; rfl
  · by_cases c2 : (b.length : Int) > 12
    · rw [decide_eq_false c1, decide_eq_true c2]; rfl
    · rw [decide_eq_false c1, decide_eq_false c2, app_nil (m := a) (by omega) (by decide), app_nil (m := b) (by omega) (by decide)]
      simp only [cond_false, Option.bind_some]
      have l1 : ∀ y5 y6, loopC (L_thalweglaw04_LockDays_1 a b D y5 y6 a b).step 0 = some (.inl ()) := by
        intro y5 y6
        rw [show (0 : Int) = ((0 : Nat) : Int) from rfl, loop_run (fun k : Nat => (k : Int)) a.length (e := .inl ())]
        · intro m hm
          simp only [L_thalweglaw04_LockDays_1, Int.ofNat_lt, hm, decide_true, cond_true, idx?_nat hm, Option.bind_some, beq_self_eq_true, Bool.and_self, Bool.not_true, cond_false]
          rw [wr_nat (by omega)]
        · simp [L_thalweglaw04_LockDays_1]
      have l2 : ∀ y5 y6, loopC (L_thalweglaw04_LockDays_2 a b D y5 y6 b).step 0 = some (.inl ()) := by
        intro y5 y6
        rw [show (0 : Int) = ((0 : Nat) : Int) from rfl, loop_run (fun k : Nat => (k : Int)) b.length (e := .inl ())]
        · intro m hm
          simp only [L_thalweglaw04_LockDays_2, Int.ofNat_lt, hm, decide_true, cond_true, idx?_nat hm, Option.bind_some, beq_self_eq_true, Bool.and_self, Bool.not_true, cond_false]
          rw [wr_nat (by omega)]
        · simp [L_thalweglaw04_LockDays_2]
      by_cases hz : chainE a b D = 0
      · have h := ch_of hz
        obtain ⟨N, rfl⟩ := h.nat
        have hf := h.few
        have hdd := h.days
        obtain ⟨o, e1, e2⟩ := short_out h N 0 (by omega)
        have e1 : loopC (L_lock_Short_2 a (endsD a b N, 0)).step 0 = _ := e1
        have e2 : loopC (L_thalwegref04_Short_2 a b (N : Int)).step 1 = _ := e2
        have hS : F_lock_Short (a, b, (N : Int)) = some (finP o) := by
          simp only [F_lock_Short, Days_eq h hz, Option.bind_some]
          rw [e1]
          cases o <;> rfl
        have hR : F_thalwegref04_Short (a, b, (N : Int)) = some (finR o) := by
          simp only [F_thalwegref04_Short]
          rw [e2]
          cases o <;> rfl
        have l3 : ∀ y6 (d : Nat), d < N → loopC (L_thalweglaw04_LockDays_3 a b (N : Int) (endsD a b N, 0) y6 (d : Int)).step 0 = some (.inl ()) := by
          intro y6 d hd
          have hlen : d < (endsD a b N).length := by simp [endsD]; omega
          have hget : (endsD a b N)[d] = vols a b (d + 1) := by simp [endsD]
          have hv := vols_len a b (d + 1)
          rw [show loopC (L_thalweglaw04_LockDays_3 a b (N : Int) (endsD a b N, 0) y6 (d : Int)).step 0 = loopC (L_thalweglaw04_LockDays_3 a b (N : Int) (endsD a b N, 0) y6 (d : Int)).step ((fun k : Nat => (k : Int)) 0) from rfl]
          refine loop_run (fun k : Nat => (k : Int)) a.length (e := (Sum.inl () : Unit ⊕ Bool)) (fun k hk => ?_) ?_
          · have hkv : k < (vols a b (d + 1)).length := by omega
            simp only [L_thalweglaw04_LockDays_3, Int.ofNat_lt, hk, decide_true, cond_true, idx?_nat hlen, hget, Option.bind_some, idx?_nat hkv, vols_get]
            rw [wr_nat (k := d) (by omega), rVolume_eq h hk (show d + 1 ≤ 61 by omega), wr_nat (by omega)]
            simp only [Option.bind_some, beq_self_eq_true, Bool.and_self, Bool.not_true, cond_false]
          · simp [L_thalweglaw04_LockDays_3]
        have l4 : ∀ y6, loopC (L_thalweglaw04_LockDays_4 a b (N : Int) (endsD a b N, 0) y6).step 0 = some (.inl ()) := by
          intro y6
          rw [show loopC (L_thalweglaw04_LockDays_4 a b (N : Int) (endsD a b N, 0) y6).step 0 = loopC (L_thalweglaw04_LockDays_4 a b (N : Int) (endsD a b N, 0) y6).step ((fun k : Nat => (k : Int)) 0) from rfl]
          refine loop_run (fun k : Nat => (k : Int)) N (e := (Sum.inl () : Unit ⊕ Bool)) (fun d hd => ?_) ?_
          · have hlen : d < (endsD a b N).length := by simp [endsD]; omega
            have hget : (endsD a b N)[d] = vols a b (d + 1) := by simp [endsD]
            simp only [L_thalweglaw04_LockDays_4, Int.ofNat_lt, hd, decide_true, cond_true, idx?_nat hlen, hget, Option.bind_some, vols_len, bne_self_eq_false, cond_false, l3 y6 d hd]
            rw [wr_nat (by omega)]
          · simp [L_thalweglaw04_LockDays_4]
        rw [Days_eq h hz, hS]
        simp only [Option.bind_some]
        rw [l1]
        simp only [Option.bind_some]
        rw [l2]
        simp only [Option.bind_some, rchain_eq (show a.length ≤ 1000 by omega) (show b.length ≤ 1000 by omega), hz, bne_self_eq_false, cond_false]
        have hlen : ((endsD a b N).length : Int) = (N : Int) := by simp [endsD]
        rw [hlen]
        simp only [bne_self_eq_false, cond_false]
        rw [l4]
        simp only [Option.bind_some, hR]
        cases o <;> simp [finP, finR]
      · rw [Days_bad (by omega) (by omega) hz, Short_bad (by omega) (by omega) hz]
        simp only [Option.bind_some]
        rw [l1]
        simp only [Option.bind_some]
        rw [l2]
        simp only [Option.bind_some, rchain_eq (show a.length ≤ 1000 by omega) (show b.length ≤ 1000 by omega), show (chainE a b D != 0) = true from by simpa using hz, cond_true, beq_self_eq_true]
        rfl
end Go.Ev
/- The law on locks' days, by what is known of its arguments. -/
set_option linter.unusedVariables false
namespace Go.Ev
theorem days_law {a : List TLockReach} {b : List TLockTraffic} {D : Int} (h1 : kLTLockReach a) (h2 : kLTLockTraffic b) (h3 : kIi64 D) : F_thalweglaw04_LockDays (a, b, D) = some true := days_true a b D
end Go.Ev
