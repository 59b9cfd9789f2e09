/- A part of the proof of RiverCloses. -/
import Derived.Test.YteajfcmpmcopoaaW3
/- Chapter 1: what flows by; the law RiverVolumes is true. -/
set_option linter.unusedVariables false
set_option linter.unusedSimpArgs false
namespace Go.Ev
set_option maxHeartbeats 1000000

def largeF (r : TRiver) (s : List (List TBounds)) : Bool := decide (r.Reaches.length > 25) || (decide (r.Shoals.length > 50) || (decide (s.length > 25) || (!(r.Reaches.all fun x => decide (x.Curve.length ≤ 40)) || !(s.all fun x => decide (x.length ≤ 450)))))
theorem large_eq {r : TRiver} {s : List (List TBounds)} (hl : r.Reaches.length ≤ 140737488355328) (hs : s.length ≤ 140737488355328) : F_thalweglaw01_large ⟨r, s⟩ = some (largeF r s) := by
  unfold F_thalweglaw01_large
  simp only
  by_cases h1 : r.Reaches.length > 25
  · simp [largeF, h1, show ((r.Reaches.length : Int) > 25) by omega]
  · simp only [show decide ((r.Reaches.length : Int) > 25) = false by simp; omega, cond_false]
    by_cases h2 : r.Shoals.length > 50
    · simp [largeF, h2, show ((r.Shoals.length : Int) > 50) by omega]
    · simp only [show decide ((r.Shoals.length : Int) > 50) = false by simp; omega, cond_false]
      by_cases h3 : s.length > 25
      · simp [largeF, h3, show ((s.length : Int) > 25) by omega]
      · simp only [show decide ((s.length : Int) > 25) = false by simp; omega, cond_false]
        rw [show (0 : Int) = ((0 : Nat) : Int) from rfl,
          loop_list r.Reaches (fun k => (k : Int)) (fun x => decide (x.Curve.length ≤ 40)) (e := .inl ()) (f := .inr true)]
        · simp only [largeF, h1, h2, h3, decide_false, Bool.false_or]
          cases hq : r.Reaches.all fun x => decide (x.Curve.length ≤ 40) with
          | false => rfl
          | true =>
            simp only [if_true, Option.bind_some]
            rw [loop_list s (fun k => (k : Int)) (fun x => decide (x.length ≤ 450)) (e := .inl ()) (f := .inr true)]
            · cases hz : s.all fun x => decide (x.length ≤ 450) <;> rfl
            · intro k hk
              simp only [L_thalweglaw01_large_2, Int.ofNat_lt, hk, decide_true, cond_true, idx?_nat hk, Option.bind_some]
              rw [wr_nat (by omega)]
              by_cases h3 : s[k].length ≤ 450
              · simp [h3, show ¬ ((s[k].length : Int) > 450) by omega]
              · simp [h3, show ((s[k].length : Int) > 450) by omega]
            · simp [L_thalweglaw01_large_2]
        · intro k hk
          simp only [L_thalweglaw01_large_1, Int.ofNat_lt, hk, decide_true, cond_true, idx?_nat hk, Option.bind_some]
          rw [wr_nat (by omega)]
          by_cases h3 : r.Reaches[k].Curve.length ≤ 40
          · simp [h3, show ¬ ((r.Reaches[k].Curve.length : Int) > 40) by omega]
          · simp [h3, show ((r.Reaches[k].Curve.length : Int) > 40) by omega]
        · simp [L_thalweglaw01_large_1]

/-- What flows by in the hours from j to before k. -/
def volOf (r : TRiver) (s : List (List TBounds)) (H i j k : Nat) : TBounds := sumB (((rowOf r s H i).drop j).take (k - j))
theorem slc?_nat {α : Type} {l : List α} {j k : Nat} (h : j ≤ k) (h' : k ≤ l.length) : slc? l (j : Int) (k : Int) = some ((l.drop j).take (k - j)) := by
  unfold slc?
  rw [if_pos (by omega)]
  simp
theorem row_upTo {r : TRiver} {s : List (List TBounds)} {H : Nat} (h : FcOk r s H) {i : Nat} (hi : i < r.Reaches.length) : ∀ x ∈ rowOf r s H i, upTo 210000000000 x := by
  intro x hx
  simp only [rowOf, List.mem_map] at hx
  obtain ⟨k, _, rfl⟩ := hx
  obtain ⟨a1, a2, a3⟩ := h.flow_upTo i k hi
  have := h.bounds.2.1
  exact ⟨a1, a2, by omega⟩

theorem Volume_err {r : TRiver} {s : List (List TBounds)} (hz : startErr r s ≠ 0) (hs : ∀ x ∈ s, x.length ≤ 1000000) (i j k : Int) : F_river_Volume (r, s, i, j, k) = some (⟨0, 0⟩, startErr r s) := by
  simp only [F_river_Volume, run_err hz hs, Option.bind_some, show (startErr r s != 0) = true by simpa using hz, cond_true]
theorem Volume_eq {r : TRiver} {s : List (List TBounds)} {H : Nat} (h : FcOk r s H) (hz : startErr r s = 0) (hs : ∀ x ∈ s, x.length ≤ 1000000) (i j k : Int) :
    F_river_Volume (r, s, i, j, k) = some (if inB i 0 ((s.length : Int) - 1) then (if inB j 0 k && decide (k ≤ (H : Int)) then (volOf r s H i.toNat j.toNat k.toNat, 0) else (⟨0, 0⟩, 3)) else (⟨0, 0⟩, 7)) := by
  have hb := h.bounds
  have hm := h.most
  have hln := h.len
  simp only [F_river_Volume, run_eq h hz hs, Option.bind_some, bne_self_eq_false, cond_false, within1, within2, F_river_stream_hours, ← hln]
  rw [wr_in (n := ((s.length : Nat) : Int) - 1) (by omega) (by omega)]
  cases hi : inB i 0 ((s.length : Int) - 1) with
  | false => rfl
  | true =>
    rw [inB_iff] at hi
    simp only [Bool.not_true, cond_false, if_true]
    rw [show (0 : Int) = ((0 : Nat) : Int) from rfl, idx?_nat (by rw [flowsTo_length]; omega), flowsTo_get]
    simp only [Option.bind_some, rowOf_length]
    by_cases c : (inB j 0 k && decide (k ≤ (H : Int))) = true
    · simp only [Bool.and_eq_true, inB_iff, decide_eq_true_eq] at c
      rw [show (inB j ((0 : Nat) : Int) H && inB k ((0 : Nat) : Int) H) = true by simp only [Bool.and_eq_true, inB_iff]; omega, show decide (j > k) = false by simp; omega, show (inB j ((0 : Nat) : Int) k && decide (k ≤ (H : Int))) = true by simp only [Bool.and_eq_true, inB_iff, decide_eq_true_eq]; omega]
      simp only [Bool.not_true, cond_false, if_true]
      obtain ⟨a, rfl⟩ := Int.eq_ofNat_of_zero_le hi.1
      obtain ⟨b, rfl⟩ := Int.eq_ofNat_of_zero_le c.1.1
      obtain ⟨d, rfl⟩ := Int.eq_ofNat_of_zero_le (show 0 ≤ k by omega)
      rw [idx?_nat (by rw [flowsTo_length]; omega), flowsTo_get]
      simp only [Option.bind_some]
      rw [slc?_nat (by omega) (by rw [rowOf_length]; omega)]
      simp only [Option.bind_some]
      rw [Sum_eq (n := 210000000000) (by omega) (by omega) (by simp [rowOf_length]; omega) (fun x hx => row_upTo h (i := a) (by omega) x (List.mem_of_mem_drop (List.mem_of_mem_take hx)))]
      rfl
    · rw [Bool.not_eq_true] at c
      rw [show (inB j ((0 : Nat) : Int) k && decide (k ≤ (H : Int))) = false from c]
      have c' : ¬ ((0 ≤ j ∧ j ≤ k) ∧ k ≤ (H : Int)) := by
        intro hc
        rw [show (inB j 0 k && decide (k ≤ (H : Int))) = true by simp only [Bool.and_eq_true, inB_iff, decide_eq_true_eq]; exact hc] at c
        cases c
      by_cases d : (inB j ((0 : Nat) : Int) H && inB k ((0 : Nat) : Int) H) = true
      · rw [d]
        simp only [Bool.and_eq_true, inB_iff] at d
        rw [show decide (j > k) = true by simp; omega]
        rfl
      · rw [Bool.not_eq_true] at d
        rw [d]
        rfl

theorem sumB_snoc : ∀ (l : List TBounds) (x : TBounds), sumB (l ++ [x]) = addB (sumB l) x
  | [], x => by simp [sumB, addB]
  | a :: l, x => by simp only [List.cons_append, sumB, sumB_snoc l x, addB, Int.add_assoc]
theorem vol_loop {r : TRiver} {s : List (List TBounds)} {H : Nat} (h : FcOk r s H) {i j k : Nat} {e : Int} (y : TBounds × Int) (hi : i < r.Reaches.length) (hj : j ≤ k) (hk : k ≤ H) :
    loopC (L_thalweglaw01_RiverVolumes_1 y ⟨r, s⟩ ⟨(i : Int), (j : Int), (k : Int)⟩).step ((j : Int), 0, 0) = some ((volOf r s H i j k).Low, (volOf r s H i j k).High) := by
  have hm := h.most
  rw [show ((j : Int), (0 : Int), (0 : Int)) = (fun m : Nat => (((j + m : Nat) : Int), (sumB (((rowOf r s H i).drop j).take m)).Low, (sumB (((rowOf r s H i).drop j).take m)).High)) 0 from rfl,
    loop_run (fun m : Nat => (((j + m : Nat) : Int), (sumB (((rowOf r s H i).drop j).take m)).Low, (sumB (((rowOf r s H i).drop j).take m)).High)) (k - j) (e := ((volOf r s H i j k).Low, (volOf r s H i j k).High))]
  · intro m hm'
    have hl : m < ((rowOf r s H i).drop j).length := by rw [List.length_drop, rowOf_length]; omega
    have hx : ∀ x ∈ ((rowOf r s H i).drop j).take (m + 1), upTo 210000000000 x := fun x hx => row_upTo h hi x (List.mem_of_mem_drop (List.mem_of_mem_take hx))
    have hb := sum_bound (by omega) hx
    have hn : (((rowOf r s H i).drop j).take (m + 1)).length ≤ 400 := by rw [List.length_take, List.length_drop, rowOf_length]; omega
    have e : sumB (((rowOf r s H i).drop j).take (m + 1)) = addB (sumB (((rowOf r s H i).drop j).take m)) (flowAt r s i ((j + m : Nat) : Int)) := by
      rw [List.take_succ_eq_append_getElem hl, sumB_snoc, List.getElem_drop, rowOf_get]
    rw [e] at hb ⊢
    obtain ⟨b1, b2, b3⟩ := hb
    simp only [addB] at b1 b2 b3 ⊢
    simp only [L_thalweglaw01_RiverVolumes_1]
    rw [show decide (((j + m : Nat) : Int) < (k : Int)) = true by simp; omega]
    simp only [cond_true]
    rw [Flow_eq h hi (by omega) (by omega)]
    simp only [Option.bind_some]
    rw [wr_nat (by omega), wr_in (by omega) (by omega), wr_in (by omega) (by omega)]
    rfl
  · simp only [L_thalweglaw01_RiverVolumes_1]
    rw [show decide (((j + (k - j) : Nat) : Int) < (k : Int)) = false by simp; omega]
    rfl
theorem known_eq : F_thalweglaw01_known () = some true := rfl

theorem volumes_true {r : TRiver} {s : List (List TBounds)} {i j k : Int} (h1 : r.Reaches.length ≤ 140737488355328) (h2 : s.length ≤ 140737488355328) : F_thalweglaw01_RiverVolumes (⟨r, s⟩, ⟨i, j, k⟩) = some true := by
  simp only [F_thalweglaw01_RiverVolumes, large_eq h1 h2, Option.bind_some, known_eq]
  cases hL : largeF r s with
  | true => rfl
  | false =>
    simp only [largeF, Bool.or_eq_false_iff, decide_eq_false_iff_not, Bool.not_eq_false', List.all_eq_true, decide_eq_true_eq] at hL
    obtain ⟨l1, l2, l3, l4, l5⟩ := hL
    have hs : ∀ x ∈ s, x.length ≤ 1000000 := fun x hx => by have := l5 x hx; omega
    simp only [cond_false]
    rw [copied_eq (r := r) (by omega) (by omega) (fun y hy => by have := l4 y hy; omega), forecast_eq (l := s) (by omega) hs, refStart_eq (r := r) (sides := s) hs (by omega)]
    simp only [Option.bind_some]
    by_cases hz : startErr r s = 0
    · obtain ⟨H, h⟩ := fcOk_of hz
      have hb := h.bounds
      have hln := h.len
      rw [Volume_eq h hz hs]
      simp only [Option.bind_some, hz, beq_self_eq_true, bne_self_eq_false, cond_true, cond_false, In_eq]
      rw [wr_in (n := ((s.length : Nat) : Int) - 1) (by omega) (by omega)]
      cases hi : inB i 0 ((s.length : Int) - 1) with
      | false => rfl
      | true =>
        rw [inB_iff] at hi
        simp only [Bool.not_true, cond_false, if_true]
        cases hj : inB j 0 k with
        | false => rfl
        | true =>
          rw [inB_iff] at hj
          simp only [Bool.not_true, cond_false, Bool.true_and]
          have hsl : 0 < s.length := by omega
          rw [show idx? s 0 = some s[0] from idx?_nat hsl]
          simp only [Option.bind_some]
          rw [h.hours _ (List.getElem_mem hsl)]
          by_cases hk : k ≤ (H : Int)
          · rw [show decide (k > (H : Int)) = false by simp; omega]
            obtain ⟨a, rfl⟩ := Int.eq_ofNat_of_zero_le hi.1
            obtain ⟨b, rfl⟩ := Int.eq_ofNat_of_zero_le hj.1
            obtain ⟨d, rfl⟩ := Int.eq_ofNat_of_zero_le (show 0 ≤ k by omega)
            simp only [hk, decide_true, if_true, cond_false, beq_self_eq_true, cond_true, Int.toNat_natCast]
            rw [vol_loop (e := 0) h _ (by omega) (by omega) (by omega)]
            simp
          · rw [show decide (k > (H : Int)) = true by simp; omega]
            simp [hk]
    · rw [Volume_err hz hs]
      simp [show (startErr r s == 0) = false by simpa using hz, show (startErr r s != 0) = true by simpa using hz]
end Go.Ev
/- Chapter 1: closures; the law RiverCloses is true. -/
set_option linter.unusedVariables false
set_option linter.unusedSimpArgs false
namespace Go.Ev
set_option maxHeartbeats 1000000

theorem of_loop (r : TRiver) (place : Int) (sh : List TShoal) : ∀ (m : List TReach) (k : Nat) (e : Int), r.Reaches.drop k = m → (∀ x ∈ m, 0 ≤ x.Length ∧ x.Length ≤ 5000) → 0 ≤ e → e ≤ place → place < e + tot m → place ≤ 1000000000 → k + m.length ≤ 1000000 →
    ∃ (j : Nat) (hj : j < r.Reaches.length), loopC (L_thalwegref01_Of_1 r).step (place - e, (k : Int)) = some (j : Int) ∧ findGo place sh m e k = some ⟨r.Reaches[j], (j : Int), place, sh⟩
  | [], k, e, h, _, _, h1, h2, _, _ => by rw [tot] at h2; omega
  | x :: m, k, e, h, hx, h0, h1, h2, h3, hk => by
    obtain ⟨hl, hg, hd⟩ := drop_cons h
    have hx0 := hx x (by simp)
    simp only [List.length_cons] at hk
    rw [tot] at h2
    by_cases c : place < e + x.Length
    · refine ⟨k, hl, ?_, ?_⟩
      · rw [loopC_eq]
        simp only [L_thalwegref01_Of_1, idx?_nat hl, Option.bind_some, hg, show decide (place - e ≥ x.Length) = false by simp; omega, cond_false]
      · rw [findGo, if_pos ⟨by omega, c⟩, hg]
    · obtain ⟨j, hj, a1, a2⟩ := of_loop r place sh m (k + 1) (e + x.Length) hd (fun y hy => hx y (by simp [hy])) (by omega) (by omega) (by omega) h3 (by omega)
      refine ⟨j, hj, ?_, ?_⟩
      · have hs : (L_thalwegref01_Of_1 r).step (place - e, (k : Int)) = some (.inl (place - (e + x.Length), ((k + 1 : Nat) : Int))) := by
          simp only [L_thalwegref01_Of_1, idx?_nat hl, Option.bind_some, hg, show decide (place - e ≥ x.Length) = true by simp; omega, cond_true]
          rw [wr_nat (by omega), wr_in (by omega) (by omega), show place - e - x.Length = place - (e + x.Length) by omega]
        rw [loopC_eq, hs]
        exact a1
      · rw [findGo, if_neg (by omega)]
        exact a2
theorem Of_eq {r : TRiver} {place : Int} (hr : ∀ x ∈ r.Reaches, 0 ≤ x.Length ∧ x.Length ≤ 5000) (hl : r.Reaches.length ≤ 1000) (h0 : 0 ≤ place) (h1 : place < tot r.Reaches) :
    ∃ (j : Nat) (hj : j < r.Reaches.length), F_thalwegref01_Of (r, place) = some (j : Int) ∧ F_river_find (r, place) = some (⟨r.Reaches[j], (j : Int), place, r.Shoals⟩, true) := by
  have hb := tot_bound hr
  obtain ⟨j, hj, a1, a2⟩ := of_loop r place r.Shoals r.Reaches 0 0 rfl hr (by omega) h0 (by omega) (by omega) (by omega)
  refine ⟨j, hj, ?_, ?_⟩
  · unfold F_thalwegref01_Of
    simp only
    rw [show (place, (0 : Int)) = (place - 0, ((0 : Nat) : Int)) by simp, a1]
    rfl
  · rw [find_eq hr hl, a2]

def closOk (r : TRiver) (c : TClosure) : Bool := inB c.From 0 (tot r.Reaches - 1) && (inB c.To c.From (tot r.Reaches - 1) && (vB c.Begin (-400) 800 && vB c.End (-400) 800))
def closErr (r : TRiver) (l : List TClosure) : Int := if l.length > 40 then 5 else if l.all (closOk r) then 0 else 2
theorem fourC {α : Type} (a b c d : Bool) (x y : α) : (bif (!a) then some y else bif (!b) then some y else bif (!c) then some y else bif (!d) then some y else some x) = some (if (a && (b && (c && d))) = true then x else y) := by
  cases a <;> cases b <;> cases c <;> cases d <;> rfl
theorem refClosures_eq {r : TRiver} {l : List TClosure} (hr : ∀ x ∈ r.Reaches, 0 ≤ x.Length ∧ x.Length ≤ 5000) (hl : r.Reaches.length ≤ 1000) : F_thalwegref01_Closures (r, l) = some (closErr r l) := by
  have hb := tot_bound hr
  unfold F_thalwegref01_Closures closErr
  simp only
  by_cases c : l.length > 40
  · rw [if_pos c, show decide ((l.length : Int) > 40) = true by simp; omega]; rfl
  · rw [if_neg c, show decide ((l.length : Int) > 40) = false by simp; omega, show (0 : Int) = ((0 : Nat) : Int) from rfl, loop_list l (fun k => (k : Int)) (closOk r) (e := .inl ()) (f := .inr 2)]
    · cases l.all (closOk r) <;> rfl
    · intro k hk
      simp only [L_thalwegref01_Closures_1, Int.ofNat_lt, hk, decide_true, cond_true, idx?_nat hk, Option.bind_some, Places_eq hr hl, In_eq, rvalid_eq]
      rw [wr_nat (by omega), wr_in (n := tot r.Reaches - 1) (by omega) (by omega)]
      exact fourC _ _ _ _ _ _
    · simp [L_thalwegref01_Closures_1]
theorem every_Closure {l : List TClosure} {p : TClosure → Option Bool} {q : TClosure → Bool} {g : FuncId} {caps : List V} (hp : ∀ x ∈ l, p x = some (q x)) (hl : l.length ≤ 4611686018427387904) : F_numbers_Every_Closure (l, p, g, caps) = some (l.all q) := by
  unfold F_numbers_Every_Closure
  simp only
  rw [show (0 : Int) = ((0 : Nat) : Int) from rfl, loop_list l (fun k => (k : Int)) q (e := .inl ()) (f := .inr false)]
  · cases l.all q <;> rfl
  · intro k hk
    simp only [L_numbers_Every_Closure_1, Int.ofNat_lt, hk, decide_true, cond_true, idx?_nat hk, Option.bind_some, hp _ (List.getElem_mem hk), wr_nat (show k < 9223372036854775807 by omega)]
    cases q l[k] <;> rfl
  · simp [L_numbers_Every_Closure_1]
theorem find_in {r : TRiver} {place : Int} (hr : ∀ x ∈ r.Reaches, 0 ≤ x.Length ∧ x.Length ≤ 5000) (hl : r.Reaches.length ≤ 1000) : ∃ s, F_river_find (r, place) = some (s, inB place 0 (tot r.Reaches - 1)) := by
  have hf := findGo_some (place := place) (sh := r.Shoals) (e := 0) (k := 0) hr (by omega)
  have hf : (findGo place r.Shoals r.Reaches 0 0).isSome = inB place 0 (tot r.Reaches - 1) := by
    rw [Bool.eq_iff_iff, hf, inB_iff]; omega
  rw [find_eq hr hl, ← hf]
  cases findGo place r.Shoals r.Reaches 0 0 with
  | none => exact ⟨_, rfl⟩
  | some s => exact ⟨_, rfl⟩
theorem closOk_eq {r : TRiver} {c : TClosure} {g : FuncId} {caps : List V} (hr : ∀ x ∈ r.Reaches, 0 ≤ x.Length ∧ x.Length ≤ 5000) (hl : r.Reaches.length ≤ 1000) : F_river_checkClosures_2 (c, r, (fun q => F_river_checkClosures_1 (q)), g, caps) = some (closOk r c) := by
  obtain ⟨s1, e1⟩ := find_in (place := c.From) hr hl
  obtain ⟨s2, e2⟩ := find_in (place := c.To) hr hl
  simp only [F_river_checkClosures_2, F_river_checkClosures_1, e1, e2, Option.bind_some, valid_eq, closOk]
  cases h1 : inB c.From 0 (tot r.Reaches - 1) with
  | false => rfl
  | true =>
    rw [inB_iff] at h1
    by_cases h3 : c.From ≤ c.To
    · rw [show inB c.To c.From (tot r.Reaches - 1) = inB c.To 0 (tot r.Reaches - 1) by rw [Bool.eq_iff_iff, inB_iff, inB_iff]; omega]
      simp only [h3, decide_true]
      cases inB c.To 0 (tot r.Reaches - 1) <;> cases vB c.Begin (-400) 800 <;> rfl
    · rw [show inB c.To c.From (tot r.Reaches - 1) = false by rw [Bool.eq_false_iff]; intro h; rw [inB_iff] at h; omega]
      simp only [h3, decide_false]
      cases inB c.To 0 (tot r.Reaches - 1) <;> rfl
theorem checkClosures_eq {r : TRiver} {l : List TClosure} (hr : ∀ x ∈ r.Reaches, 0 ≤ x.Length ∧ x.Length ≤ 5000) (hl : r.Reaches.length ≤ 1000) : F_river_checkClosures (r, l) = some (closErr r l) := by
  unfold F_river_checkClosures closErr
  simp only
  by_cases c : l.length > 40
  · rw [if_pos c, show decide ((l.length : Int) > 40) = true by simp; omega]; rfl
  · rw [if_neg c, show decide ((l.length : Int) > 40) = false by simp; omega, every_Closure (q := closOk r) (fun x _ => closOk_eq hr hl) (by omega)]
    cases l.all (closOk r) <;> rfl

theorem contains_eq {l : List TClosure} {p : TClosure → Option Bool} {q : TClosure → Bool} {g : FuncId} {caps : List V} (hp : ∀ x ∈ l, p x = some (q x)) (hl : l.length ≤ 1000000) : F_slices_ContainsFunc_L_Closure_Closure (l, p, g, caps) = some (l.any q) := by
  have hi : F_slices_IndexFunc_L_Closure_Closure (l, p, g, caps) = some (if l.findIdx q < l.length then (l.findIdx q : Int) else -1) := by
    unfold F_slices_IndexFunc_L_Closure_Closure
    simp only
    have hle : l.findIdx q ≤ l.length := List.findIdx_le_length
    have no : ∀ k (hk : k < l.length), k < l.findIdx q → q l[k] = false := fun k hk h => by simpa using List.not_of_lt_findIdx h
    by_cases c : l.findIdx q < l.length
    · rw [show (0 : Int) = ((0 : Nat) : Int) from rfl, loop_run (fun k : Nat => (k : Int)) (l.findIdx q) (e := .inr (l.findIdx q : Int))]
      · simp [c]
      · intro k hk
        have hkl : k < l.length := by omega
        simp only [L_slices_IndexFunc_L_Closure_Closure_1, Int.ofNat_lt, hkl, decide_true, cond_true, idx?_nat hkl, Option.bind_some, hp _ (List.getElem_mem hkl), no k hkl hk, cond_false]
        rw [wr_nat (by omega)]
      · have := List.findIdx_getElem (p := q) (xs := l) (w := c)
        simp only [L_slices_IndexFunc_L_Closure_Closure_1, Int.ofNat_lt, c, decide_true, cond_true, idx?_nat c, Option.bind_some, hp _ (List.getElem_mem c), this]
    · rw [show (0 : Int) = ((0 : Nat) : Int) from rfl, loop_run (fun k : Nat => (k : Int)) l.length (e := .inl ())]
      · simp [c]
      · intro k hkl
        simp only [L_slices_IndexFunc_L_Closure_Closure_1, Int.ofNat_lt, hkl, decide_true, cond_true, idx?_nat hkl, Option.bind_some, hp _ (List.getElem_mem hkl), no k hkl (by omega), cond_false]
        rw [wr_nat (by omega)]
      · simp [L_slices_IndexFunc_L_Closure_Closure_1]
  simp only [F_slices_ContainsFunc_L_Closure_Closure, hi, Option.bind_some, Option.some.injEq]
  rw [Bool.eq_iff_iff, decide_eq_true_eq, List.any_eq_true]
  by_cases c : l.findIdx q < l.length
  · rw [if_pos c]
    exact ⟨fun _ => ⟨_, List.getElem_mem c, List.findIdx_getElem (w := c)⟩, fun _ => by omega⟩
  · rw [if_neg c]
    refine ⟨fun h => by omega, fun ⟨x, hx, hq⟩ => absurd (List.findIdx_lt_length_of_exists ⟨x, hx, hq⟩) c⟩

/-- May a closure hold, must it? -/
def mayC (place h : Int) (c : TClosure) : Bool := inB place c.From c.To && (decide (c.Begin.Low ≤ h) && decide (h < c.End.High))
def mustC (place h : Int) (c : TClosure) : Bool := inB place c.From c.To && (decide (c.Begin.High ≤ h) && decide (h < c.End.Low))
theorem may_eq (place h : Int) (c : TClosure) : F_river_Closed_1 (c, place, h) = some (mayC place h c) := by
  simp only [F_river_Closed_1, within1, Option.bind_some, mayC]
  cases inB place c.From c.To <;> cases decide (c.Begin.Low ≤ h) <;> rfl
theorem must_eq (place h : Int) (c : TClosure) : F_river_Closed_2 (c, place, h) = some (mustC place h c) := by
  simp only [F_river_Closed_2, within1, Option.bind_some, mustC]
  cases inB place c.From c.To <;> cases decide (c.Begin.High ≤ h) <;> rfl
/-- The level of a reach in an hour. -/
def levAt (r : TRiver) (s : List (List TBounds)) (j : Nat) (h : Int) : TBounds := levB (reachAt r j) (flowAt r s j h)
def closedOf (r : TRiver) (s : List (List TBounds)) (l : List TClosure) (j : Nat) (place h : Int) : Bool × Bool :=
  (decide ((levAt r s j h).High > (reachAt r j).Flood) || l.any (mayC place h), decide ((levAt r s j h).Low > (reachAt r j).Flood) || l.any (mustC place h))
theorem closed_loop {l : List TClosure} {place h : Int} {A B : Bool} (hl : l.length ≤ 1000000) : loopC (L_thalwegref01_Closed_1 l place h).step (0, A, B) = some (A || l.any (mayC place h), B || l.any (mustC place h)) := by
  rw [show ((0 : Int), A, B) = (fun k : Nat => ((k : Int), A || (l.take k).any (mayC place h), B || (l.take k).any (mustC place h))) 0 from by simp,
    loop_run (fun k : Nat => ((k : Int), A || (l.take k).any (mayC place h), B || (l.take k).any (mustC place h))) l.length (e := (A || l.any (mayC place h), B || l.any (mustC place h)))]
  · intro k hk
    simp only [L_thalwegref01_Closed_1, Int.ofNat_lt, hk, decide_true, cond_true, idx?_nat hk, Option.bind_some, In_eq, List.take_succ_eq_append_getElem hk, List.any_append, List.any_cons, List.any_nil, Bool.or_false, ← Bool.or_assoc]
    rw [wr_nat (by omega)]
    generalize (A || (l.take k).any (mayC place h)) = a
    generalize (B || (l.take k).any (mustC place h)) = b
    simp only [mayC, mustC, ge_iff_le]
    cases inB place l[k].From l[k].To with
    | false => simp
    | true => cases a <;> cases b <;> cases decide (l[k].Begin.Low ≤ h) <;> cases decide (l[k].Begin.High ≤ h) <;> simp
  · simp [L_thalwegref01_Closed_1]

theorem FcOk.lens {r : TRiver} {s : List (List TBounds)} {H : Nat} (h : FcOk r s H) : (∀ x ∈ r.Reaches, 0 ≤ x.Length ∧ x.Length ≤ 5000) ∧ r.Reaches.length ≤ 20 := by
  have h1 := h.river
  simp only [riverOk, Bool.and_eq_true, inB_iff, List.all_eq_true] at h1
  exact ⟨fun x hx => reachOk_len (h1.2.1 x hx), by omega⟩
theorem refClosed_eq {r : TRiver} {s : List (List TBounds)} {H : Nat} (h : FcOk r s H) {l : List TClosure} {place k : Int} {j : Nat} (hl : l.length ≤ 1000000) (hj : j < r.Reaches.length) (ho : F_thalwegref01_Of (r, place) = some (j : Int)) (h0 : 0 ≤ k) (h1 : k < H) :
    F_thalwegref01_Closed (r, s, l, place, k) = some (closedOf r s l j place k) := by
  simp only [F_thalwegref01_Closed, ho, Option.bind_some, idx?_nat hj]
  rw [Flow_eq h hj h1 (by omega)]
  simp only [Option.bind_some]
  rw [reachAt_eq hj, refLevel_eq (reachOk_curve (h.bounds.2.2 j hj))]
  simp only [Option.bind_some]
  rw [closed_loop hl]
  rfl

theorem Closed_err {r : TRiver} {s : List (List TBounds)} (hz : startErr r s ≠ 0) (hs : ∀ x ∈ s, x.length ≤ 1000000) (l : List TClosure) (p k : Int) : F_river_Closed (r, s, l, p, k) = some (false, false, startErr r s) := by
  simp only [F_river_Closed, run_err hz hs, Option.bind_some, show (startErr r s != 0) = true by simpa using hz, cond_true]
theorem Closed_eq {r : TRiver} {s : List (List TBounds)} {H : Nat} (h : FcOk r s H) (hz : startErr r s = 0) (hs : ∀ x ∈ s, x.length ≤ 1000000) {l : List TClosure} (hl : l.length ≤ 1000000) (place k : Int) :
    (closErr r l ≠ 0 → F_river_Closed (r, s, l, place, k) = some (false, false, closErr r l)) ∧
    (closErr r l = 0 → inB place 0 (tot r.Reaches - 1) = false → F_river_Closed (r, s, l, place, k) = some (false, false, 7)) ∧
    (closErr r l = 0 → inB place 0 (tot r.Reaches - 1) = true → inB k 0 ((H : Int) - 1) = false → F_river_Closed (r, s, l, place, k) = some (false, false, 3)) ∧
    (closErr r l = 0 → inB place 0 (tot r.Reaches - 1) = true → inB k 0 ((H : Int) - 1) = true → ∃ j, j < r.Reaches.length ∧ F_thalwegref01_Of (r, place) = some (j : Int) ∧ F_river_Closed (r, s, l, place, k) = some ((closedOf r s l j place k).1, (closedOf r s l j place k).2, 0)) := by
  obtain ⟨hr, hrl⟩ := h.lens
  have hb := h.bounds
  have hm := h.most
  have hp := h.pos
  have hln := h.len
  obtain ⟨st, hst⟩ := find_in (place := place) hr (by omega)
  have hrun := run_eq h hz hs
  have hhr : F_river_stream_hours ⟨r, flowsTo r s H s.length⟩ = some (H : Int) := by
    simp only [F_river_stream_hours]
    rw [show (0 : Int) = ((0 : Nat) : Int) from rfl, idx?_nat (by rw [flowsTo_length]; omega), flowsTo_get]
    simp only [Option.bind_some, rowOf_length]
  have hw : wr ((H : Int) - 1) = (H : Int) - 1 := wr_in (by omega) (by omega)
  refine ⟨fun hc => ?_, fun hc hpl => ?_, fun hc hpl hk => ?_, fun hc hpl hk => ?_⟩
  · simp only [F_river_Closed, hrun, Option.bind_some, bne_self_eq_false, cond_false, checkClosures_eq hr (show r.Reaches.length ≤ 1000 by omega), show (closErr r l != 0) = true by simpa using hc, cond_true]
  · simp only [F_river_Closed, hrun, Option.bind_some, bne_self_eq_false, cond_false, checkClosures_eq hr (show r.Reaches.length ≤ 1000 by omega), hc, F_river_stream_findAt, hst, hpl, Bool.not_false, cond_true]
    rfl
  · simp only [F_river_Closed, hrun, Option.bind_some, bne_self_eq_false, cond_false, checkClosures_eq hr (show r.Reaches.length ≤ 1000 by omega), hc, F_river_stream_findAt, hst, hpl, Bool.not_true, hhr, hw, within1, hk, Bool.not_false, cond_true]
    rfl
  · have hpl' := hpl
    have hk' := hk
    rw [inB_iff] at hpl' hk'
    obtain ⟨j, hj, a1, a2⟩ := Of_eq hr (show r.Reaches.length ≤ 1000 by omega) hpl'.1 (by omega)
    refine ⟨j, hj, a1, ?_⟩
    obtain ⟨kn, rfl⟩ := Int.eq_ofNat_of_zero_le hk'.1
    have hlev : F_river_stream_level (⟨r, flowsTo r s H s.length⟩, (j : Int), (kn : Int)) = some (levAt r s j (kn : Int)) := by
      simp only [F_river_stream_level, idx?_nat hj, Option.bind_some]
      rw [idx?_nat (by rw [flowsTo_length]; omega), flowsTo_get]
      simp only [Option.bind_some]
      rw [idx?_nat (by rw [rowOf_length]; omega), rowOf_get]
      simp only [Option.bind_some]
      rw [reachAt_eq hj, levelAt_eq (reachOk_curve (hb.2.2 j hj))]
      rfl
    simp only [F_river_Closed, hrun, Option.bind_some, bne_self_eq_false, cond_false, checkClosures_eq hr (show r.Reaches.length ≤ 1000 by omega), hc, F_river_stream_findAt, a2, Bool.not_true, hhr, hw, within1, hk, hlev]
    rw [contains_eq (q := mayC place kn) (fun x _ => may_eq _ _ x) hl, contains_eq (q := mustC place kn) (fun x _ => must_eq _ _ x) hl, reachAt_eq hj]
    simp only [closedOf, Option.bind_some]
    cases decide ((levAt r s j (kn : Int)).High > (reachAt r j).Flood) <;> cases decide ((levAt r s j (kn : Int)).Low > (reachAt r j).Flood) <;> rfl
end Go.Ev
/- Chapter 1: the law RiverCloses is true. -/
set_option linter.unusedVariables false
set_option linter.unusedSimpArgs false
namespace Go.Ev
set_option maxHeartbeats 1000000

theorem closes_true {r : TRiver} {s : List (List TBounds)} {l : List TClosure} {place k : Int} (h1 : r.Reaches.length ≤ 140737488355328) (h2 : s.length ≤ 140737488355328) : F_thalweglaw01_RiverCloses (⟨r, s⟩, l, ⟨place, k⟩) = some true := by
  simp only [F_thalweglaw01_RiverCloses, large_eq h1 h2, Option.bind_some, known_eq]
  cases hL : largeF r s with
  | true => rfl
  | false =>
    simp only [largeF, Bool.or_eq_false_iff, decide_eq_false_iff_not, Bool.not_eq_false', List.all_eq_true, decide_eq_true_eq] at hL
    obtain ⟨l1, l2, l3, l4, l5⟩ := hL
    have hs : ∀ x ∈ s, x.length ≤ 1000000 := fun x hx => by have := l5 x hx; omega
    simp only [cond_false]
    by_cases hc : l.length > 50
    · rw [show decide ((l.length : Int) > 50) = true by simp; omega]; rfl
    · rw [show decide ((l.length : Int) > 50) = false by simp; omega]
      simp only [cond_false]
      rw [app_nil (m := l) (n := 48) (by omega) (by decide), copied_eq (r := r) (by omega) (by omega) (fun y hy => by have := l4 y hy; omega), forecast_eq (l := s) (by omega) hs]
      simp only [Option.bind_some]
      have hloop : ∀ y, loopC (L_thalweglaw01_RiverCloses_1 l y ⟨r, s⟩ ⟨place, k⟩ l).step 0 = some (.inl ()) := by
        intro y
        rw [show (0 : Int) = ((0 : Nat) : Int) from rfl, loop_run (fun k : Nat => (k : Int)) l.length (e := .inl ())]
        · intro m hm
          simp only [L_thalweglaw01_RiverCloses_1, Int.ofNat_lt, hm, decide_true, cond_true, idx?_nat hm, Option.bind_some, beq_self_eq_true, Bool.and_self, Bool.not_true, cond_false]
          rw [wr_nat (by omega)]
        · simp [L_thalweglaw01_RiverCloses_1]
      by_cases hz : startErr r s = 0
      · obtain ⟨H, h⟩ := fcOk_of hz
        obtain ⟨hr, hrl⟩ := h.lens
        have hb := h.bounds
        have hp := h.pos
        have hm := h.most
        have htb := tot_bound hr
        have hln := h.len
        obtain ⟨c1, c2, c3, c4⟩ := Closed_eq h hz hs (l := l) (show l.length ≤ 1000000 by omega) place k
        by_cases he : closErr r l = 0
        · cases hi : inB place 0 (tot r.Reaches - 1) with
          | false =>
            rw [c2 he hi]
            simp only [Option.bind_some]
            rw [hloop, refStart_eq (r := r) (sides := s) hs (by omega)]
            simp only [Option.bind_some, hz, beq_self_eq_true, cond_true, refClosures_eq hr (show r.Reaches.length ≤ 1000 by omega), he, Places_eq hr (show r.Reaches.length ≤ 1000 by omega), In_eq]
            rw [wr_in (by omega) (by omega), hi]
            rfl
          | true =>
            have hsl : 0 < s.length := by omega
            have h0 : idx? s 0 = some s[0] := idx?_nat hsl
            have hsH : ((s[0].length : Nat) : Int) = (H : Int) := by rw [h.hours _ (List.getElem_mem hsl)]
            cases hk : inB k 0 ((H : Int) - 1) with
            | false =>
              rw [c3 he hi hk]
              simp only [Option.bind_some]
              rw [hloop, refStart_eq (r := r) (sides := s) hs (by omega)]
              simp only [Option.bind_some, hz, beq_self_eq_true, cond_true, refClosures_eq hr (show r.Reaches.length ≤ 1000 by omega), he, Places_eq hr (show r.Reaches.length ≤ 1000 by omega), In_eq]
              rw [wr_in (n := tot r.Reaches - 1) (by omega) (by omega), hi]
              simp only [Bool.not_true, cond_false]
              rw [h0]
              simp only [Option.bind_some, hsH]
              rw [wr_in (by omega) (by omega), hk]
              rfl
            | true =>
              obtain ⟨j, hj, ho, hcl⟩ := c4 he hi hk
              rw [hcl]
              simp only [Option.bind_some]
              rw [hloop, refStart_eq (r := r) (sides := s) hs (by omega)]
              simp only [Option.bind_some, hz, beq_self_eq_true, cond_true, refClosures_eq hr (show r.Reaches.length ≤ 1000 by omega), he, Places_eq hr (show r.Reaches.length ≤ 1000 by omega), In_eq]
              rw [wr_in (n := tot r.Reaches - 1) (by omega) (by omega), hi]
              simp only [Bool.not_true, cond_false]
              rw [h0]
              simp only [Option.bind_some, hsH]
              rw [wr_in (by omega) (by omega), hk]
              rw [inB_iff] at hk
              rw [refClosed_eq h (by omega) hj ho hk.1 (by omega)]
              simp
        · rw [c1 he]
          simp only [Option.bind_some]
          rw [hloop, refStart_eq (r := r) (sides := s) hs (by omega)]
          simp [hz, refClosures_eq hr (show r.Reaches.length ≤ 1000 by omega), show (closErr r l == 0) = false by simpa using he]
      · rw [Closed_err hz hs]
        simp only [Option.bind_some]
        rw [hloop, refStart_eq (r := r) (sides := s) hs (by omega)]
        simp [show (startErr r s == 0) = false by simpa using hz]
end Go.Ev
/- The law RiverCloses, by what is known of its arguments. -/
set_option linter.unusedVariables false
namespace Go.Ev
theorem closes_law {f : Tthalweglaw01_Forecast} {l : List TClosure} {a : Tanon85} (h1 : kTthalweglaw01_Forecast f) (h2 : kLTClosure l) (h3 : kTanon85 a) : F_thalweglaw01_RiverCloses (f, l, a) = some true := by
  obtain ⟨r, s⟩ := f
  obtain ⟨i, j⟩ := a
  exact closes_true h1.1.1.1 h1.2.1
end Go.Ev
