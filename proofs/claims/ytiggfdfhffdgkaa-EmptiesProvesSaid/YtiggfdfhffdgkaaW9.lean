/- A part of the proof of EmptiesCosts. -/
import Derived.Test.YtiggfdfhffdgkaaW8
/- Chapter 6: nets, moves and prices. -/
set_option linter.unusedVariables false
set_option linter.unusedSimpArgs false
namespace Go.Ev
set_option maxHeartbeats 2000000
theorem loop_list0 {α E : Type} {step : Int → Option (Int ⊕ E)} (l : List α) (q : α → Bool) {e f : E} (h : ∀ (k : Nat) (hk : k < l.length), step (k : Int) = some (if q l[k] then .inl ((k + 1 : Nat) : Int) else .inr f)) (he : step (l.length : Int) = some (.inr e)) : loopC step 0 = some (if l.all q then e else f) := loop_list l (fun k : Nat => (k : Int)) q h he
/-- Rounds over a list that always go on. -/
theorem loop_foldl {α σ S E : Type} {step : S → Option (S ⊕ E)} (l : List α) (P : σ → Prop) (st : Nat → σ → S) (g : σ → α → σ) (e : σ → E) (h : ∀ k s (hk : k < l.length), P s → step (st k s) = some (.inl (st (k + 1) (g s l[k]))) ∧ P (g s l[k]))
    (he : ∀ s, P s → step (st l.length s) = some (.inr (e s))) (s : σ) (hs : P s) : loopC step (st 0 s) = some (e (l.foldl g s)) ∧ P (l.foldl g s) := by
  have key : ∀ j, j ≤ l.length → ∀ s, P s → loopC step (st (l.length - j) s) = some (e ((l.drop (l.length - j)).foldl g s)) ∧ P ((l.drop (l.length - j)).foldl g s) := by
    intro j
    induction j with
    | zero => intro _ s hs; rw [Nat.sub_zero, loopC_eq, he s hs]; simpa using hs
    | succ j ih =>
      intro hj s hs
      have hlt : l.length - (j + 1) < l.length := by omega
      obtain ⟨h1, h2⟩ := h _ s hlt hs
      rw [loopC_eq, h1, List.drop_eq_getElem_cons hlt, show l.length - (j + 1) + 1 = l.length - j by omega, List.foldl_cons]
      exact ih (by omega) _ h2
  have := key l.length (Nat.le_refl _) s hs
  rwa [Nat.sub_self, List.drop_zero] at this
theorem every_int {l : List Int} {p : Int → Option Bool} {q : Int → Bool} {g : FuncId} {caps : List V} (hp : ∀ x ∈ l, p x = some (q x)) (hl : l.length ≤ 4611686018427387904) : F_numbers_Every_int (l, p, g, caps) = some (l.all q) := by
  unfold F_numbers_Every_int
  simp only
  rw [loop_list0 l q (e := .inl ()) (f := .inr false)]
  · cases l.all q <;> rfl
  · intro k hk
    simp only [L_numbers_Every_int_1, Int.ofNat_lt, hk, decide_true, cond_true, idx?_nat hk, Option.bind_some, hp _ (List.getElem_mem hk), wr_nat (show k < 9223372036854775807 by omega)]
    cases q l[k] <;> rfl
  · simp [L_numbers_Every_int_1]
theorem every_EmptyPort {l : List TEmptyPort} {p : TEmptyPort → Option Bool} {q : TEmptyPort → Bool} {g : FuncId} {caps : List V} (hp : ∀ x ∈ l, p x = some (q x)) (hl : l.length ≤ 4611686018427387904) : F_numbers_Every_EmptyPort (l, p, g, caps) = some (l.all q) := by
  unfold F_numbers_Every_EmptyPort
  simp only
  rw [loop_list0 l q (e := .inl ()) (f := .inr false)]
  · cases l.all q <;> rfl
  · intro k hk
    simp only [L_numbers_Every_EmptyPort_1, Int.ofNat_lt, hk, decide_true, cond_true, idx?_nat hk, Option.bind_some, hp _ (List.getElem_mem hk), wr_nat (show k < 9223372036854775807 by omega)]
    cases q l[k] <;> rfl
  · simp [L_numbers_Every_EmptyPort_1]
theorem every_EmptyWay {l : List TEmptyWay} {p : TEmptyWay → Option Bool} {q : TEmptyWay → Bool} {g : FuncId} {caps : List V} (hp : ∀ x ∈ l, p x = some (q x)) (hl : l.length ≤ 4611686018427387904) : F_numbers_Every_EmptyWay (l, p, g, caps) = some (l.all q) := by
  unfold F_numbers_Every_EmptyWay
  simp only
  rw [loop_list0 l q (e := .inl ()) (f := .inr false)]
  · cases l.all q <;> rfl
  · intro k hk
    simp only [L_numbers_Every_EmptyWay_1, Int.ofNat_lt, hk, decide_true, cond_true, idx?_nat hk, Option.bind_some, hp _ (List.getElem_mem hk), wr_nat (show k < 9223372036854775807 by omega)]
    cases q l[k] <;> rfl
  · simp [L_numbers_Every_EmptyWay_1]
theorem bif_and (a b : Bool) : (bif a then some b else some false) = some (a && b) := by cases a <;> rfl
theorem within1_eq (n a b : Int) : F_numbers_Within_1 (n, a, b) = some (inB n a b) := by
  simp only [F_numbers_Within_1, bif_and, inB]
theorem within_eq (a b : Int) (l : List Int) (hl : l.length ≤ 4611686018427387904) : F_numbers_Within (a, b, l) = some (l.all fun n => inB n a b) := by
  simp only [F_numbers_Within]
  rw [every_int (q := fun n => inB n a b) (fun x _ => within1_eq x a b) hl]
  rfl
theorem within1 (a b n : Int) : F_numbers_Within (a, b, [n]) = some (inB n a b) := by rw [within_eq _ _ _ (by simp)]; simp
theorem within2 (a b n m : Int) : F_numbers_Within (a, b, [n, m]) = some (inB n a b && inB m a b) := by rw [within_eq _ _ _ (by simp)]; simp

def portV (p : TEmptyPort) : Bool := inB p.Has 0 1000 && inB p.Wants 0 1000
def wayV (n : Nat) (w : TEmptyWay) : Bool := (inB w.From 0 ((n : Int) - 1) && inB w.To 0 ((n : Int) - 1)) && ((w.From != w.To) && (inB w.Cost 0 1000000 && inB w.Room 0 1000))
def netV (n : TEmptyNet) : Bool := inB (n.Ports.length : Int) 1 60 && (decide ((n.Ways.length : Int) ≤ 300) && (n.Ports.all portV && n.Ways.all (wayV n.Ports.length)))
theorem port1_eq (p : TEmptyPort) : F_empties_validPorts_1 p = some (portV p) := by
  simp only [F_empties_validPorts_1, within2, Option.bind_some, portV]
theorem way1_eq (w : TEmptyWay) {n : Nat} (hn : n ≤ 1000000) : F_empties_validWays_1 (w, (n : Int)) = some (wayV n w) := by
  simp only [F_empties_validWays_1, wr_in (n := (n : Int) - 1) (by omega) (by omega), within2, within1, Option.bind_some, wayV, bif_and]
theorem ports_eq (l : List TEmptyPort) (hl : l.length ≤ 1000000) : F_empties_validPorts l = some (l.all portV) := by
  simp only [F_empties_validPorts]
  rw [every_EmptyPort (q := portV) (fun x _ => port1_eq x) (by omega)]; rfl
theorem ways_eq (n : Nat) (hn : n ≤ 1000000) (l : List TEmptyWay) (hl : l.length ≤ 1000000) : F_empties_validWays ((n : Int), l) = some (l.all (wayV n)) := by
  simp only [F_empties_validWays]
  rw [every_EmptyWay (q := wayV n) (fun x _ => way1_eq x hn) (by omega)]; rfl
theorem Check_eq (n : TEmptyNet) (hp : n.Ports.length ≤ 1000000) (hw : n.Ways.length ≤ 1000000) : F_empties_Check n = some (bif netV n then 0 else 2) := by
  simp only [F_empties_Check, within1, Option.bind_some, netV]
  cases inB (n.Ports.length : Int) 1 60 with
  | false => rfl
  | true =>
    cases decide ((n.Ways.length : Int) ≤ 300) with
    | false => rfl
    | true =>
      simp only [cond_true, ports_eq _ hp, ways_eq _ hp _ hw, Option.bind_some]
      cases n.Ports.all portV with
      | false => rfl
      | true => cases n.Ways.all (wayV n.Ports.length) <;> rfl
theorem rin_eq (n a b : Int) : F_thalwegref06_in (n, a, b) = some (inB n a b) := by
  simp only [F_thalwegref06_in, ge_iff_le, bif_and, inB]
theorem rPort_eq (p : TEmptyPort) : F_thalwegref06_Port p = some (portV p) := by
  simp only [F_thalwegref06_Port, rin_eq, Option.bind_some, bif_and, portV]
theorem rWay_eq (w : TEmptyWay) {n : Nat} (hn : n ≤ 1000000) : F_thalwegref06_Way (w, (n : Int)) = some (wayV n w) := by
  simp only [F_thalwegref06_Way, wr_in (n := (n : Int) - 1) (by omega) (by omega), rin_eq, Option.bind_some, wayV, bif_and, Bool.and_assoc]
theorem rNet_eq (n : TEmptyNet) (hp : n.Ports.length ≤ 1000000) (hw : n.Ways.length ≤ 1000000) : F_thalwegref06_Net n = some (netV n) := by
  simp only [F_thalwegref06_Net, rin_eq, Option.bind_some, netV]
  cases inB (n.Ports.length : Int) 1 60 with
  | false => rfl
  | true =>
    by_cases c : (n.Ways.length : Int) > 300
    · rw [decide_eq_true c, decide_eq_false (show ¬ (n.Ways.length : Int) ≤ 300 by omega)]; rfl
    · rw [decide_eq_false c, decide_eq_true (show (n.Ways.length : Int) ≤ 300 by omega)]
      simp only [Bool.not_true, cond_false, Bool.true_and]
      rw [loop_list0 n.Ports portV (e := .inl ()) (f := .inr false)]
      · cases n.Ports.all portV with
        | false => rfl
        | true =>
          simp only [if_true, Option.bind_some, Bool.true_and]
          rw [loop_list0 n.Ways (wayV n.Ports.length) (e := .inl ()) (f := .inr false)]
          · cases n.Ways.all (wayV n.Ports.length) <;> rfl
          · intro k hk
            simp only [L_thalwegref06_Net_2, Int.ofNat_lt, hk, decide_true, cond_true, idx?_nat hk, Option.bind_some, rWay_eq _ hp, wr_nat (show k < 9223372036854775807 by omega)]
            cases wayV n.Ports.length n.Ways[k] <;> rfl
          · simp [L_thalwegref06_Net_2]
      · intro k hk
        simp only [L_thalwegref06_Net_1, Int.ofNat_lt, hk, decide_true, cond_true, idx?_nat hk, Option.bind_some, rPort_eq, wr_nat (show k < 9223372036854775807 by omega)]
        cases portV n.Ports[k] <;> rfl
      · simp [L_thalwegref06_Net_1]

/-! what each port has to spare -/
theorem idx?_in {l : List Int} {j : Int} (h0 : 0 ≤ j) (h1 : j < (l.length : Int)) : idx? l j = some (l.getD j.toNat 0) := by
  unfold idx?
  rw [if_pos h0, List.getD_eq_getElem?_getD, List.getElem?_eq_getElem (by omega)]; rfl
theorem set?_in {l : List Int} {j x : Int} (h0 : 0 ≤ j) (h1 : j < (l.length : Int)) : set? l j x = some (l.set j.toNat x) := by
  unfold set?
  rw [if_pos ⟨h0, h1⟩]
def outS (s : List Int) (i : Nat) (m : Int) : List Int := s.set i (wr (s.getD i 0 - m))
def inS (s : List Int) (i : Nat) (m : Int) : List Int := s.set i (wr (s.getD i 0 + m))
def mvS (s : List Int) (p : TEmptyWay × Int) : List Int := inS (outS s p.1.From.toNat p.2) p.1.To.toNat p.2
def ownL (n : TEmptyNet) : List Int := n.Ports.map fun p => wr (p.Has - p.Wants)
def spareL (n : TEmptyNet) (moves : List Int) : List Int := (n.Ways.zip moves).foldl mvS (ownL n)
theorem mvS_len (s : List Int) (p : TEmptyWay × Int) : (mvS s p).length = s.length := by simp [mvS, inS, outS]
theorem spareL_len (n : TEmptyNet) (moves : List Int) : (spareL n moves).length = n.Ports.length := by
  unfold spareL
  have : ∀ (l : List (TEmptyWay × Int)) (s : List Int), (l.foldl mvS s).length = s.length := by
    intro l
    induction l with
    | nil => intro s; rfl
    | cons p l ih => intro s; rw [List.foldl_cons, ih, mvS_len]
  rw [this]; simp [ownL]
theorem wayV_iff {n : Nat} {w : TEmptyWay} (h : wayV n w = true) : (0 ≤ w.From ∧ w.From < (n : Int)) ∧ (0 ≤ w.To ∧ w.To < (n : Int)) ∧ w.From ≠ w.To ∧ (0 ≤ w.Cost ∧ w.Cost ≤ 1000000) ∧ 0 ≤ w.Room ∧ w.Room ≤ 1000 := by
  simp only [wayV, Bool.and_eq_true, inB_iff, bne_iff_ne] at h
  obtain ⟨⟨⟨a, b⟩, c, d⟩, e, f, g⟩ := h
  exact ⟨⟨a, by omega⟩, ⟨c, by omega⟩, e, f, g⟩
theorem netV_iff {n : TEmptyNet} (h : netV n = true) : (1 ≤ n.Ports.length ∧ n.Ports.length ≤ 60) ∧ n.Ways.length ≤ 300 ∧ (∀ p ∈ n.Ports, portV p = true) ∧ ∀ w ∈ n.Ways, wayV n.Ports.length w = true := by
  simp only [netV, Bool.and_eq_true, inB_iff, decide_eq_true_eq, List.all_eq_true] at h
  obtain ⟨⟨a, b⟩, c, d, e⟩ := h
  exact ⟨⟨by omega, by omega⟩, by omega, d, e⟩
theorem spare1_eq (m : Tempties_market) (hp : m.EmptyNet.Ports.length ≤ 1000000) : loopC (L_empties_market_spare_1 m).step (0, List.replicate m.EmptyNet.Ports.length 0) = some (ownL m.EmptyNet) := by
  have hlen : (ownL m.EmptyNet).length = m.EmptyNet.Ports.length := by simp [ownL]
  have := loop_run (step := (L_empties_market_spare_1 m).step) (fun k : Nat => ((k : Int), (ownL m.EmptyNet).take k ++ List.replicate (m.EmptyNet.Ports.length - k) 0)) m.EmptyNet.Ports.length (e := ownL m.EmptyNet) ?_ ?_
  · simpa using this
  · intro k hk
    have hl : ((ownL m.EmptyNet).take k ++ List.replicate (m.EmptyNet.Ports.length - k) (0 : Int)).length = m.EmptyNet.Ports.length := by
      rw [List.length_append, List.length_take, List.length_replicate, hlen]; omega
    have hs : ((ownL m.EmptyNet).take k ++ List.replicate (m.EmptyNet.Ports.length - k) (0 : Int)).set k (wr (m.EmptyNet.Ports[k].Has - m.EmptyNet.Ports[k].Wants)) = (ownL m.EmptyNet).take (k + 1) ++ List.replicate (m.EmptyNet.Ports.length - (k + 1)) 0 := by
      have e1 : m.EmptyNet.Ports.length - k = (m.EmptyNet.Ports.length - (k + 1)) + 1 := by omega
      have e2 : ((ownL m.EmptyNet).take k).length = k := by rw [List.length_take, hlen]; omega
      have e3 : (ownL m.EmptyNet)[k]? = some (wr (m.EmptyNet.Ports[k].Has - m.EmptyNet.Ports[k].Wants)) := by simp [ownL, hk]
      rw [List.set_append_right _ _ (by omega), e2, Nat.sub_self, e1, List.replicate_succ, List.set_cons_zero, List.take_add_one, e3]
      simp
    simp only [L_empties_market_spare_1, Int.ofNat_lt, hk, decide_true, cond_true, idx?_nat hk, Option.bind_some]
    rw [idx?_in (by omega) (by omega), set?_in (by omega) (by omega), wr_nat (by omega)]
    simp only [Option.bind_some, Int.toNat_natCast, hs]
  · have e2 : (ownL m.EmptyNet).take m.EmptyNet.Ports.length = ownL m.EmptyNet := List.take_of_length_le (by omega)
    simp [L_empties_market_spare_1, e2]
theorem step2_eq {n : Nat} {s : List Int} (hs : s.length = n) {w : TEmptyWay} (hw : wayV n w = true) (mv : Int) {A : Type} (K : List Int → Option A) :
    ((idx? s w.From).bind fun x29 => (set? s w.From (wr (x29 - mv))).bind fun l34 => (idx? l34 w.To).bind fun x35 => (set? l34 w.To (wr (x35 + mv))).bind K) = K (mvS s (w, mv)) := by
  obtain ⟨⟨a, b⟩, ⟨c, d⟩, _⟩ := wayV_iff hw
  rw [idx?_in a (by omega), Option.bind_some, set?_in a (by omega), Option.bind_some, idx?_in c (by rw [List.length_set]; omega), Option.bind_some, set?_in c (by rw [List.length_set]; omega), Option.bind_some]
  rfl
theorem spare2_eq (m : Tempties_market) (hV : netV m.EmptyNet = true) (hm : m.moves_.length = m.EmptyNet.Ways.length) : loopC (L_empties_market_spare_2 m).step (0, ownL m.EmptyNet) = some (spareL m.EmptyNet m.moves_) := by
  obtain ⟨⟨h1, h2⟩, h3, h4, h5⟩ := netV_iff hV
  have hz : (m.EmptyNet.Ways.zip m.moves_).length = m.EmptyNet.Ways.length := by rw [List.length_zip]; omega
  refine (loop_foldl (step := (L_empties_market_spare_2 m).step) (m.EmptyNet.Ways.zip m.moves_) (fun s => s.length = m.EmptyNet.Ports.length) (fun k s => ((k : Int), s)) mvS id ?_ ?_ (ownL m.EmptyNet) (by simp [ownL])).1
  · intro k s hk hs
    have hkw : k < m.EmptyNet.Ways.length := by omega
    have hkm : k < m.moves_.length := by omega
    refine ⟨?_, by rw [mvS_len]; exact hs⟩
    obtain ⟨⟨a, b⟩, ⟨c, d⟩, _⟩ := wayV_iff (h5 _ (List.getElem_mem hkw))
    simp only [L_empties_market_spare_2, Int.ofNat_lt, hkw, decide_true, cond_true, idx?_nat hkw, idx?_nat hkm, Option.bind_some, wr_nat (show k < 9223372036854775807 by omega), List.getElem_zip]
    rw [idx?_in a (by omega)]
    simp only [Option.bind_some]
    rw [set?_in a (by omega)]
    simp only [Option.bind_some]
    rw [idx?_in c (by rw [List.length_set]; omega)]
    simp only [Option.bind_some]
    rw [set?_in c (by rw [List.length_set]; omega)]
    rfl
  · intro s hs
    simp [L_empties_market_spare_2, hz, show ¬ m.EmptyNet.Ways.length < m.EmptyNet.Ways.length by omega]
theorem mk_rep {n : Nat} (h : n ≤ 1000000) : mk? (0 : Int) (n : Int) 8 = some (List.replicate n 0) := by
  unfold mk?
  rw [if_pos ⟨by omega, by omega, by omega⟩]; simp
theorem spare_eq (m : Tempties_market) (hV : netV m.EmptyNet = true) (hm : m.moves_.length = m.EmptyNet.Ways.length) : F_empties_market_spare m = some (spareL m.EmptyNet m.moves_) := by
  obtain ⟨⟨h1, h2⟩, h3, h4, h5⟩ := netV_iff hV
  simp only [F_empties_market_spare]
  rw [mk_rep (by omega)]
  simp only [Option.bind_some]
  rw [spare1_eq m (by omega)]
  simp only [Option.bind_some]
  rw [spare2_eq m hV hm]
  rfl
theorem Extra_eq (n : TEmptyNet) (moves : List Int) (hV : netV n = true) (hm : moves.length = n.Ways.length) : F_thalwegref06_Extra (n, moves) = some (spareL n moves) := by
  obtain ⟨⟨h1, h2⟩, h3, h4, h5⟩ := netV_iff hV
  have hlen : (ownL n).length = n.Ports.length := by simp [ownL]
  have e1 : loopC (L_thalwegref06_Extra_1 moves n).step (0, []) = some (ownL n) := by
    have := loop_run (step := (L_thalwegref06_Extra_1 moves n).step) (fun k : Nat => ((k : Int), (ownL n).take k)) n.Ports.length (e := ownL n) ?_ ?_
    · simpa using this
    · intro k hk
      have e3 : (ownL n)[k]? = some (wr (n.Ports[k].Has - n.Ports[k].Wants)) := by simp [ownL, hk]
      simp only [L_thalwegref06_Extra_1, Int.ofNat_lt, hk, decide_true, cond_true, idx?_nat hk, Option.bind_some]
      rw [app_of (by rw [List.length_take, hlen]; simp; omega) (by omega), wr_nat (by omega)]
      simp only [Option.bind_some]
      rw [List.take_add_one, e3]
      rfl
    · have e2 : (ownL n).take n.Ports.length = ownL n := List.take_of_length_le (by omega)
      simp [L_thalwegref06_Extra_1, e2]
  have hz : (n.Ways.zip moves).length = n.Ways.length := by rw [List.length_zip]; omega
  have e2 : loopC (L_thalwegref06_Extra_2 moves n).step (0, ownL n) = some (spareL n moves) := by
    refine (loop_foldl (step := (L_thalwegref06_Extra_2 moves n).step) (n.Ways.zip moves) (fun s => s.length = n.Ports.length) (fun k s => ((k : Int), s)) mvS id ?_ ?_ (ownL n) hlen).1
    · intro k s hk hs
      have hkw : k < n.Ways.length := by omega
      have hkm : k < moves.length := by omega
      refine ⟨?_, by rw [mvS_len]; exact hs⟩
      obtain ⟨⟨a, b⟩, ⟨c, d⟩, _⟩ := wayV_iff (h5 _ (List.getElem_mem hkw))
      simp only [L_thalwegref06_Extra_2, Int.ofNat_lt, hkw, decide_true, cond_true, idx?_nat hkw, idx?_nat hkm, Option.bind_some, wr_nat (show k < 9223372036854775807 by omega), List.getElem_zip]
      rw [idx?_in a (by omega)]
      simp only [Option.bind_some]
      rw [set?_in a (by omega)]
      simp only [Option.bind_some]
      rw [idx?_in c (by rw [List.length_set]; omega)]
      simp only [Option.bind_some]
      rw [set?_in c (by rw [List.length_set]; omega)]
      rfl
    · intro s hs
      simp [L_thalwegref06_Extra_2, hz]
  simp only [F_thalwegref06_Extra, e1, e2, Option.bind_some]

/-! moves -/
def roomV (p : TEmptyWay × Int) : Bool := inB p.2 0 p.1.Room
def possE (n : TEmptyNet) (moves : List Int) : Int := if moves.length ≠ n.Ways.length then 4 else if (n.Ways.zip moves).all roomV = false then 3 else if (spareL n moves).all (fun x => decide (0 ≤ x)) = false then 9 else 0
theorem len_ne {a b : Nat} : (((a : Int) != (b : Int)) = true) = (a ≠ b) := propext (by simp; omega)
theorem checkMoves_eq (m : Tempties_market) (hV : netV m.EmptyNet = true) : F_empties_market_checkMoves m = some (possE m.EmptyNet m.moves_) := by
  obtain ⟨⟨h1, h2⟩, h3, h4, h5⟩ := netV_iff hV
  simp only [F_empties_market_checkMoves, possE]
  by_cases hl : m.moves_.length = m.EmptyNet.Ways.length
  · rw [show (((m.moves_.length : Int) != (m.EmptyNet.Ways.length : Int))) = false by simp [hl]]
    simp only [cond_false, ne_eq, hl, not_true, if_false]
    have hz : (m.EmptyNet.Ways.zip m.moves_).length = m.EmptyNet.Ways.length := by rw [List.length_zip]; omega
    rw [loop_list0 (m.EmptyNet.Ways.zip m.moves_) roomV (e := .inl ()) (f := .inr 3)]
    · cases (m.EmptyNet.Ways.zip m.moves_).all roomV with
      | false => rfl
      | true =>
        simp only [if_true, Option.bind_some, Bool.true_eq_false, if_false]
        rw [spare_eq m hV hl]
        simp only [Option.bind_some]
        rw [every_int (p := fun q => F_empties_market_checkMoves_1 q) (q := fun x => decide (0 ≤ x)) (fun x _ => rfl) (by rw [spareL_len]; omega)]
        cases (spareL m.EmptyNet m.moves_).all (fun x => decide (0 ≤ x)) <;> rfl
    · intro k hk
      have hkw : k < m.EmptyNet.Ways.length := by omega
      have hkm : k < m.moves_.length := by omega
      simp only [L_empties_market_checkMoves_1, Int.ofNat_lt, hkw, decide_true, cond_true, idx?_nat hkw, idx?_nat hkm, Option.bind_some, within1, wr_nat (show k < 9223372036854775807 by omega), List.getElem_zip, roomV]
      cases inB m.moves_[k] 0 m.EmptyNet.Ways[k].Room <;> rfl
    · simp [L_empties_market_checkMoves_1, hz]
  · rw [show (((m.moves_.length : Int) != (m.EmptyNet.Ways.length : Int))) = true by rw [len_ne]; exact hl]
    simp [hl]
theorem Possible_eq (n : TEmptyNet) (moves : List Int) (hV : netV n = true) : F_thalwegref06_Possible (n, moves) = some (possE n moves) := by
  obtain ⟨⟨h1, h2⟩, h3, h4, h5⟩ := netV_iff hV
  simp only [F_thalwegref06_Possible, possE]
  by_cases hl : moves.length = n.Ways.length
  · rw [show (((moves.length : Int) != (n.Ways.length : Int))) = false by simp [hl]]
    simp only [cond_false, ne_eq, hl, not_true, if_false]
    have hz : (n.Ways.zip moves).length = n.Ways.length := by rw [List.length_zip]; omega
    rw [loop_list0 (n.Ways.zip moves) roomV (e := .inl ()) (f := .inr 3)]
    · cases (n.Ways.zip moves).all roomV with
      | false => rfl
      | true =>
        simp only [if_true, Option.bind_some, Bool.true_eq_false, if_false]
        rw [Extra_eq n moves hV hl]
        simp only [Option.bind_some]
        rw [loop_list0 (spareL n moves) (fun x => decide (0 ≤ x)) (e := .inl ()) (f := .inr 9)]
        · cases (spareL n moves).all (fun x => decide (0 ≤ x)) <;> rfl
        · intro k hk
          have := spareL_len n moves
          simp only [L_thalwegref06_Possible_2, Int.ofNat_lt, hk, decide_true, cond_true, idx?_nat hk, Option.bind_some, wr_nat (show k < 9223372036854775807 by omega)]
          by_cases c : (spareL n moves)[k] < 0
          · rw [decide_eq_true c, decide_eq_false (show ¬ 0 ≤ (spareL n moves)[k] by omega)]; rfl
          · rw [decide_eq_false c, decide_eq_true (show 0 ≤ (spareL n moves)[k] by omega)]; rfl
        · simp [L_thalwegref06_Possible_2]
    · intro k hk
      have hkw : k < n.Ways.length := by omega
      have hkm : k < moves.length := by omega
      simp only [L_thalwegref06_Possible_1, Int.ofNat_lt, hkm, decide_true, cond_true, idx?_nat hkw, idx?_nat hkm, Option.bind_some, rin_eq, wr_nat (show k < 9223372036854775807 by omega), List.getElem_zip, roomV]
      cases inB moves[k] 0 n.Ways[k].Room <;> rfl
    · simp [L_thalwegref06_Possible_1, hz, hl]
  · rw [show (((moves.length : Int) != (n.Ways.length : Int))) = true by rw [len_ne]; exact hl]
    simp [hl]
def costL (n : TEmptyNet) (moves : List Int) : Int := (n.Ways.zip moves).foldl (fun s p => wr (s + wr (p.1.Cost * p.2))) 0
theorem cost_eq (m : Tempties_market) (hw : m.EmptyNet.Ways.length ≤ 1000000) (hl : m.moves_.length = m.EmptyNet.Ways.length) : F_empties_market_cost m = some (costL m.EmptyNet m.moves_) := by
  have hz : (m.EmptyNet.Ways.zip m.moves_).length = m.EmptyNet.Ways.length := by rw [List.length_zip]; omega
  have e : loopC (L_empties_market_cost_1 m).step (0, 0) = some (costL m.EmptyNet m.moves_) := by
    refine (loop_foldl (step := (L_empties_market_cost_1 m).step) (m.EmptyNet.Ways.zip m.moves_) (fun _ => True) (fun k s => (s, (k : Int))) (fun s p => wr (s + wr (p.1.Cost * p.2))) id ?_ ?_ 0 trivial).1
    · intro k s hk _
      have hkw : k < m.EmptyNet.Ways.length := by omega
      have hkm : k < m.moves_.length := by omega
      simp only [L_empties_market_cost_1, Int.ofNat_lt, hkw, decide_true, cond_true, idx?_nat hkw, idx?_nat hkm, Option.bind_some, wr_nat (show k < 9223372036854775807 by omega), List.getElem_zip, and_self]
    · intro s _
      simp [L_empties_market_cost_1, hz]
  simp only [F_empties_market_cost, e, Option.bind_some]
theorem rCost_eq (n : TEmptyNet) (moves : List Int) (hw : n.Ways.length ≤ 1000000) (hl : moves.length = n.Ways.length) : F_thalwegref06_Cost (n, moves) = some (costL n moves) := by
  have hz : (n.Ways.zip moves).length = n.Ways.length := by rw [List.length_zip]; omega
  have e : loopC (L_thalwegref06_Cost_1 moves n).step (0, 0) = some (costL n moves) := by
    refine (loop_foldl (step := (L_thalwegref06_Cost_1 moves n).step) (n.Ways.zip moves) (fun _ => True) (fun k s => (s, (k : Int))) (fun s p => wr (s + wr (p.1.Cost * p.2))) id ?_ ?_ 0 trivial).1
    · intro k s hk _
      have hkw : k < n.Ways.length := by omega
      have hkm : k < moves.length := by omega
      simp only [L_thalwegref06_Cost_1, Int.ofNat_lt, hkm, decide_true, cond_true, idx?_nat hkw, idx?_nat hkm, Option.bind_some, wr_nat (show k < 9223372036854775807 by omega), List.getElem_zip, and_self, Int.mul_comm]
    · intro s _
      simp [L_thalwegref06_Cost_1, hz, hl]
  simp only [F_thalwegref06_Cost, e, Option.bind_some]
end Go.Ev
/- Chapter 6: costs, bounds and proofs are what the reference says. -/
set_option linter.unusedVariables false
set_option linter.unusedSimpArgs false
namespace Go.Ev
set_option maxHeartbeats 2000000
theorem large_eq (n : TEmptyNet) : F_thalweglaw06_large n = some (decide ((n.Ports.length : Int) > 70) || decide ((n.Ways.length : Int) > 320)) := by
  simp only [F_thalweglaw06_large]
  cases decide ((n.Ports.length : Int) > 70) <;> rfl
theorem copied_eq (n : TEmptyNet) (hp : n.Ports.length ≤ 1000) (hw : n.Ways.length ≤ 1000) : F_thalweglaw06_copied n = some n := by
  simp only [F_thalweglaw06_copied, app_nil (m := n.Ports) (n := 16) (by omega) (by omega), app_nil (m := n.Ways) (n := 32) (by omega) (by omega), Option.bind_some]
theorem ints_eq (l : List Int) (h : l.length ≤ 1000) : F_thalweglaw06_ints l = some l := by
  simp only [F_thalweglaw06_ints, app_nil (m := l) (n := 8) (by omega) (by omega), Option.bind_some]
theorem equal_self (l : List Int) (h : l.length ≤ 1000) : F_thalweglaw06_equal (l, l) = some true := by
  simp only [F_thalweglaw06_equal, bne_self_eq_false, cond_false]
  rw [loop_list0 l (fun _ => true) (e := .inl ()) (f := .inr false)]
  · simp
  · intro k hk
    simp only [L_thalweglaw06_equal_1, Int.ofNat_lt, hk, decide_true, cond_true, idx?_nat hk, Option.bind_some, bne_self_eq_false, cond_false, wr_nat (show k < 9223372036854775807 by omega), if_true]
  · simp [L_thalweglaw06_equal_1]
theorem same_self (n : TEmptyNet) (hp : n.Ports.length ≤ 1000) (hw : n.Ways.length ≤ 1000) : F_thalweglaw06_same (n, n) = some true := by
  simp only [F_thalweglaw06_same, bne_self_eq_false, cond_false]
  rw [loop_list0 n.Ports (fun _ => true) (e := .inl ()) (f := .inr false)]
  · simp only [List.all_eq_true, implies_true, if_true, Option.bind_some]
    rw [loop_list0 n.Ways (fun _ => true) (e := .inl ()) (f := .inr false)]
    · simp
    · intro k hk
      simp only [L_thalweglaw06_same_2, Int.ofNat_lt, hk, decide_true, cond_true, idx?_nat hk, Option.bind_some, beq_self_eq_true, Bool.and_self, Bool.not_true, cond_false, wr_nat (show k < 9223372036854775807 by omega), if_true]
    · simp [L_thalweglaw06_same_2]
  · intro k hk
    simp only [L_thalweglaw06_same_1, Int.ofNat_lt, hk, decide_true, cond_true, idx?_nat hk, Option.bind_some, beq_self_eq_true, Bool.and_self, Bool.not_true, cond_false, wr_nat (show k < 9223372036854775807 by omega), if_true]
  · simp [L_thalweglaw06_same_1]
theorem known_eq : F_thalweglaw06_known () = some true := rfl
theorem possE_ne (n : TEmptyNet) (moves : List Int) (h : possE n moves = 0) : moves.length = n.Ways.length := by
  unfold possE at h
  by_cases hl : moves.length = n.Ways.length
  · exact hl
  · simp [hl] at h
def costR (n : TEmptyNet) (moves : List Int) : Int × Int := bif netV n then (bif (possE n moves != 0) then (0, possE n moves) else (costL n moves, 0)) else (0, 2)
theorem Cost_eq (n : TEmptyNet) (moves : List Int) (hp : n.Ports.length ≤ 1000) (hw : n.Ways.length ≤ 1000) : F_empties_Cost (n, moves) = some (costR n moves) := by
  simp only [F_empties_Cost, Check_eq n (by omega) (by omega), Option.bind_some, costR]
  cases hV : netV n with
  | false => rfl
  | true =>
    simp only [cond_true, bne_self_eq_false, cond_false]
    rw [checkMoves_eq ⟨n, moves, []⟩ hV]
    simp only [Option.bind_some]
    cases hq : (possE n moves != 0) with
    | true => rfl
    | false =>
      have h0 : possE n moves = 0 := by simpa using hq
      simp only [cond_false]
      rw [cost_eq ⟨n, moves, []⟩ (by simp; omega) (possE_ne n moves h0)]
      rfl
theorem costs_true (n : TEmptyNet) (moves : List Int) : F_thalweglaw06_EmptiesCosts (n, moves) = some true := by
  simp only [F_thalweglaw06_EmptiesCosts, large_eq, Option.bind_some, known_eq]
  cases hb : (decide ((n.Ports.length : Int) > 70) || decide ((n.Ways.length : Int) > 320)) with
  | true => rfl
  | false =>
    simp only [cond_false]
    have hb' := hb
    simp only [Bool.or_eq_false_iff, decide_eq_false_iff_not] at hb'
    obtain ⟨h1, h2⟩ := hb'
    by_cases h3 : (moves.length : Int) > 320
    · rw [decide_eq_true h3]; rfl
    · rw [decide_eq_false h3]
      simp only [cond_false]
      have hp : n.Ports.length ≤ 1000 := by omega
      have hw : n.Ways.length ≤ 1000 := by omega
      rw [copied_eq n hp hw, ints_eq moves (by omega)]
      simp only [Option.bind_some]
      rw [Check_eq n (by omega) (by omega), Cost_eq n moves hp hw, same_self n hp hw, equal_self moves (by omega), rNet_eq n (by omega) (by omega)]
      simp only [Option.bind_some, Bool.not_true, cond_false, costR]
      cases hV : netV n with
      | false => rfl
      | true =>
        simp only [cond_true, Bool.not_true, cond_false]
        rw [Possible_eq n moves hV]
        simp only [Option.bind_some]
        cases hq : (possE n moves != 0) with
        | true => simp
        | false =>
          have h0 : possE n moves = 0 := by simpa using hq
          simp only [cond_false]
          rw [rCost_eq n moves (by omega) (possE_ne n moves h0)]
          simp

/-! prices -/
def priceE (n : TEmptyNet) (prices : List Int) : Int := if prices.length ≠ n.Ports.length then 4 else if prices.all (fun x => inB x 0 1000000000) = false then 3 else 0
theorem checkPrices_eq (m : Tempties_market) (hl : m.prices_.length ≤ 1000) : F_empties_market_checkPrices m = some (priceE m.EmptyNet m.prices_) := by
  simp only [F_empties_market_checkPrices, priceE]
  by_cases c : m.prices_.length = m.EmptyNet.Ports.length
  · rw [show (((m.prices_.length : Int) != (m.EmptyNet.Ports.length : Int))) = false by simp [c]]
    simp only [cond_false, ne_eq, c, not_true, if_false]
    rw [within_eq _ _ _ (by omega)]
    simp only [Option.bind_some]
    cases m.prices_.all (fun x => inB x 0 1000000000) <;> rfl
  · rw [show (((m.prices_.length : Int) != (m.EmptyNet.Ports.length : Int))) = true by rw [len_ne]; exact c]
    simp [c]
theorem Prices_eq (n : TEmptyNet) (prices : List Int) (hl : prices.length ≤ 1000) : F_thalwegref06_Prices (n, prices) = some (priceE n prices) := by
  simp only [F_thalwegref06_Prices, priceE]
  by_cases c : prices.length = n.Ports.length
  · rw [show (((prices.length : Int) != (n.Ports.length : Int))) = false by simp [c]]
    simp only [cond_false, ne_eq, c, not_true, if_false]
    rw [loop_list0 prices (fun x => inB x 0 1000000000) (e := .inl ()) (f := .inr 3)]
    · cases prices.all (fun x => inB x 0 1000000000) <;> rfl
    · intro k hk
      simp only [L_thalwegref06_Prices_1, Int.ofNat_lt, hk, decide_true, cond_true, idx?_nat hk, Option.bind_some, rin_eq, wr_nat (show k < 9223372036854775807 by omega)]
      cases inB prices[k] 0 1000000000 <;> rfl
    · simp [L_thalwegref06_Prices_1]
  · rw [show (((prices.length : Int) != (n.Ports.length : Int))) = true by rw [len_ne]; exact c]
    simp [c]
theorem priceE_ne (n : TEmptyNet) (prices : List Int) (h : priceE n prices = 0) : prices.length = n.Ports.length := by
  unfold priceE at h
  by_cases hl : prices.length = n.Ports.length
  · exact hl
  · simp [hl] at h
def gainL (prices : List Int) (w : TEmptyWay) : Int := wr (wr (prices.getD w.To.toNat 0 - prices.getD w.From.toNat 0) - w.Cost)
theorem gain_eq (m : Tempties_market) (w : TEmptyWay) (hw : wayV m.EmptyNet.Ports.length w = true) (hl : m.prices_.length = m.EmptyNet.Ports.length) : F_empties_market_gain (m, w) = some (gainL m.prices_ w) := by
  obtain ⟨⟨a, b⟩, ⟨c, d⟩, _⟩ := wayV_iff hw
  simp only [F_empties_market_gain]
  rw [idx?_in c (by omega), idx?_in a (by omega)]
  rfl
def bound1 (n : TEmptyNet) (prices : List Int) : Int := (n.Ports.zip prices).foldl (fun s p => wr (s + wr (p.2 * wr (p.1.Wants - p.1.Has)))) 0
def boundL (n : TEmptyNet) (prices : List Int) : Int := n.Ways.foldl (fun s w => wr (s - wr (w.Room * minmax true 0 (gainL prices w)))) (bound1 n prices)
theorem bound_eq (m : Tempties_market) (hV : netV m.EmptyNet = true) (hl : m.prices_.length = m.EmptyNet.Ports.length) : F_empties_market_bound m = some (boundL m.EmptyNet m.prices_) := by
  obtain ⟨⟨h1, h2⟩, h3, h4, h5⟩ := netV_iff hV
  have hz : (m.EmptyNet.Ports.zip m.prices_).length = m.EmptyNet.Ports.length := by rw [List.length_zip]; omega
  have e1 : loopC (L_empties_market_bound_1 m).step (0, 0) = some (bound1 m.EmptyNet m.prices_) := by
    refine (loop_foldl (step := (L_empties_market_bound_1 m).step) (m.EmptyNet.Ports.zip m.prices_) (fun _ => True) (fun k s => (s, (k : Int))) (fun s p => wr (s + wr (p.2 * wr (p.1.Wants - p.1.Has)))) id ?_ ?_ 0 trivial).1
    · intro k s hk _
      have hkp : k < m.EmptyNet.Ports.length := by omega
      have hkq : k < m.prices_.length := by omega
      simp only [L_empties_market_bound_1, Int.ofNat_lt, hkp, decide_true, cond_true, idx?_nat hkp, idx?_nat hkq, Option.bind_some, wr_nat (show k < 9223372036854775807 by omega), List.getElem_zip, and_self]
    · intro s _
      simp [L_empties_market_bound_1, hz]
  have e2 : loopC (L_empties_market_bound_2 m).step (bound1 m.EmptyNet m.prices_, 0) = some (boundL m.EmptyNet m.prices_) := by
    refine (loop_foldl (step := (L_empties_market_bound_2 m).step) m.EmptyNet.Ways (fun _ => True) (fun k s => (s, (k : Int))) (fun s w => wr (s - wr (w.Room * minmax true 0 (gainL m.prices_ w)))) id ?_ ?_ _ trivial).1
    · intro k s hk _
      simp only [L_empties_market_bound_2, Int.ofNat_lt, hk, decide_true, cond_true, idx?_nat hk, Option.bind_some, gain_eq m _ (h5 _ (List.getElem_mem hk)) hl, wr_nat (show k < 9223372036854775807 by omega), and_self]
    · intro s _
      simp [L_empties_market_bound_2]
  simp only [F_empties_market_bound, e1, e2, Option.bind_some]
theorem rBound_eq (n : TEmptyNet) (prices : List Int) (hV : netV n = true) (hl : prices.length = n.Ports.length) : F_thalwegref06_Bound (n, prices) = some (boundL n prices) := by
  obtain ⟨⟨h1, h2⟩, h3, h4, h5⟩ := netV_iff hV
  have hz : (n.Ports.zip prices).length = n.Ports.length := by rw [List.length_zip]; omega
  have e1 : loopC (L_thalwegref06_Bound_1 prices n).step (0, 0) = some (bound1 n prices) := by
    refine (loop_foldl (step := (L_thalwegref06_Bound_1 prices n).step) (n.Ports.zip prices) (fun _ => True) (fun k s => (s, (k : Int))) (fun s p => wr (s + wr (p.2 * wr (p.1.Wants - p.1.Has)))) id ?_ ?_ 0 trivial).1
    · intro k s hk _
      have hkp : k < n.Ports.length := by omega
      have hkq : k < prices.length := by omega
      simp only [L_thalwegref06_Bound_1, Int.ofNat_lt, hkq, decide_true, cond_true, idx?_nat hkp, idx?_nat hkq, Option.bind_some, wr_nat (show k < 9223372036854775807 by omega), List.getElem_zip, and_self]
    · intro s _
      simp [L_thalwegref06_Bound_1, hz, hl]
  have e2 : loopC (L_thalwegref06_Bound_2 prices n).step (bound1 n prices, 0) = some (boundL n prices) := by
    refine (loop_foldl (step := (L_thalwegref06_Bound_2 prices n).step) n.Ways (fun _ => True) (fun k s => (s, (k : Int))) (fun s w => wr (s - wr (w.Room * minmax true 0 (gainL prices w)))) id ?_ ?_ _ trivial).1
    · intro k s hk _
      obtain ⟨⟨a, b⟩, ⟨c, d⟩, _⟩ := wayV_iff (h5 _ (List.getElem_mem hk))
      simp only [L_thalwegref06_Bound_2, Int.ofNat_lt, hk, decide_true, cond_true, idx?_nat hk, Option.bind_some]
      rw [idx?_in c (by omega), idx?_in a (by omega)]
      simp only [Option.bind_some, wr_nat (show k < 9223372036854775807 by omega), and_true]
      rfl
    · intro s _
      simp [L_thalwegref06_Bound_2]
  simp only [F_thalwegref06_Bound, e1, e2, Option.bind_some]
def boundR (n : TEmptyNet) (prices : List Int) : Int × Int := bif netV n then (bif (priceE n prices != 0) then (0, priceE n prices) else (boundL n prices, 0)) else (0, 2)
theorem Bound_eq (n : TEmptyNet) (prices : List Int) (hp : n.Ports.length ≤ 1000) (hw : n.Ways.length ≤ 1000) (hl : prices.length ≤ 1000) : F_empties_Bound (n, prices) = some (boundR n prices) := by
  simp only [F_empties_Bound, Check_eq n (by omega) (by omega), Option.bind_some, boundR]
  cases hV : netV n with
  | false => rfl
  | true =>
    simp only [cond_true, bne_self_eq_false, cond_false]
    rw [checkPrices_eq ⟨n, [], prices⟩ hl]
    simp only [Option.bind_some]
    cases hq : (priceE n prices != 0) with
    | true => rfl
    | false =>
      have h0 : priceE n prices = 0 := by simpa using hq
      simp only [cond_false]
      rw [bound_eq ⟨n, [], prices⟩ hV (priceE_ne n prices h0)]
      rfl
/-! proofs -/
def wayP (prices : List Int) (p : TEmptyWay × Int) : Bool := !((decide (gainL prices p.1 < 0) && (p.2 != 0)) || (decide (gainL prices p.1 > 0) && (p.2 != p.1.Room)))
def portP (p : Int × Int) : Bool := !(decide (p.1 > 0) && (p.2 != 0))
def provesL (n : TEmptyNet) (moves prices : List Int) : Bool := (n.Ways.zip moves).all (wayP prices) && ((spareL n moves).zip prices).all portP
theorem proved_eq (m : Tempties_market) (hV : netV m.EmptyNet = true) (hm : m.moves_.length = m.EmptyNet.Ways.length) (hl : m.prices_.length = m.EmptyNet.Ports.length) : F_empties_market_proved m = some (provesL m.EmptyNet m.moves_ m.prices_) := by
  obtain ⟨⟨h1, h2⟩, h3, h4, h5⟩ := netV_iff hV
  have hz : (m.EmptyNet.Ways.zip m.moves_).length = m.EmptyNet.Ways.length := by rw [List.length_zip]; omega
  have hs := spareL_len m.EmptyNet m.moves_
  have hz2 : ((spareL m.EmptyNet m.moves_).zip m.prices_).length = m.EmptyNet.Ports.length := by rw [List.length_zip]; omega
  have e1 : loopC (L_empties_market_proved_1 m).step 0 = some (if (m.EmptyNet.Ways.zip m.moves_).all (wayP m.prices_) then .inl () else .inr false) := by
    refine loop_list0 _ _ (fun k hk => ?_) ?_
    · have hkw : k < m.EmptyNet.Ways.length := by omega
      have hkm : k < m.moves_.length := by omega
      simp only [L_empties_market_proved_1, Int.ofNat_lt, hkw, decide_true, cond_true, idx?_nat hkw, idx?_nat hkm, Option.bind_some, gain_eq m _ (h5 _ (List.getElem_mem hkw)) hl, wr_nat (show k < 9223372036854775807 by omega), List.getElem_zip, wayP]
      cases decide (gainL m.prices_ m.EmptyNet.Ways[k] < 0) <;> cases decide (gainL m.prices_ m.EmptyNet.Ways[k] > 0) <;> cases (m.moves_[k] != 0) <;> cases (m.moves_[k] != m.EmptyNet.Ways[k].Room) <;> rfl
    · simp [L_empties_market_proved_1, hz]
  have e2 : loopC (L_empties_market_proved_2 (spareL m.EmptyNet m.moves_) m).step 0 = some (if ((spareL m.EmptyNet m.moves_).zip m.prices_).all portP then .inl () else .inr false) := by
    refine loop_list0 _ _ (fun k hk => ?_) ?_
    · have hkw : k < (spareL m.EmptyNet m.moves_).length := by omega
      have hkm : k < m.prices_.length := by omega
      simp only [L_empties_market_proved_2, Int.ofNat_lt, hkw, decide_true, cond_true, idx?_nat hkw, idx?_nat hkm, Option.bind_some, wr_nat (show k < 9223372036854775807 by omega), List.getElem_zip, portP]
      cases decide ((spareL m.EmptyNet m.moves_)[k] > 0) <;> cases (m.prices_[k] != 0) <;> rfl
    · simp [L_empties_market_proved_2, hz2, hs]
  simp only [F_empties_market_proved, e1, provesL]
  cases (m.EmptyNet.Ways.zip m.moves_).all (wayP m.prices_) with
  | false => rfl
  | true =>
    simp only [if_true, Option.bind_some, spare_eq m hV hm, e2, Bool.true_and]
    cases ((spareL m.EmptyNet m.moves_).zip m.prices_).all portP <;> rfl
theorem rProves_eq (n : TEmptyNet) (moves prices : List Int) (hV : netV n = true) (hm : moves.length = n.Ways.length) (hl : prices.length = n.Ports.length) : F_thalwegref06_Proves (n, moves, prices) = some (provesL n moves prices) := by
  obtain ⟨⟨h1, h2⟩, h3, h4, h5⟩ := netV_iff hV
  have hz : (n.Ways.zip moves).length = n.Ways.length := by rw [List.length_zip]; omega
  have hs := spareL_len n moves
  have hz2 : ((spareL n moves).zip prices).length = n.Ports.length := by rw [List.length_zip]; omega
  have e2 : loopC (L_thalwegref06_Proves_1 moves prices (spareL n moves) n).step 0 = some (if ((spareL n moves).zip prices).all portP then .inl () else .inr false) := by
    refine loop_list0 _ _ (fun k hk => ?_) ?_
    · have hkw : k < (spareL n moves).length := by omega
      have hkm : k < prices.length := by omega
      simp only [L_thalwegref06_Proves_1, Int.ofNat_lt, hkm, decide_true, cond_true, idx?_nat hkw, idx?_nat hkm, Option.bind_some, wr_nat (show k < 9223372036854775807 by omega), List.getElem_zip, portP]
      cases decide ((spareL n moves)[k] > 0) <;> cases (prices[k] != 0) <;> rfl
    · simp [L_thalwegref06_Proves_1, hz2, hl]
  have e1 : loopC (L_thalwegref06_Proves_2 moves prices n).step 0 = some (if (n.Ways.zip moves).all (wayP prices) then .inl () else .inr false) := by
    refine loop_list0 _ _ (fun k hk => ?_) ?_
    · have hkw : k < n.Ways.length := by omega
      have hkm : k < moves.length := by omega
      obtain ⟨⟨a, b⟩, ⟨c, d⟩, _⟩ := wayV_iff (h5 _ (List.getElem_mem hkw))
      simp only [L_thalwegref06_Proves_2, Int.ofNat_lt, hkm, decide_true, cond_true, idx?_nat hkw, idx?_nat hkm, Option.bind_some, wr_nat (show k < 9223372036854775807 by omega), List.getElem_zip, wayP]
      rw [idx?_in c (by omega), idx?_in a (by omega)]
      simp only [Option.bind_some]
      show (bif decide (gainL prices n.Ways[k] < 0) then _ else _) = _
      simp only [show wr (wr (prices.getD n.Ways[k].To.toNat 0 - prices.getD n.Ways[k].From.toNat 0) - n.Ways[k].Cost) = gainL prices n.Ways[k] from rfl]
      cases decide (gainL prices n.Ways[k] < 0) <;> cases decide (gainL prices n.Ways[k] > 0) <;> cases (moves[k] != 0) <;> cases (moves[k] != n.Ways[k].Room) <;> rfl
    · simp [L_thalwegref06_Proves_2, hz, hm]
  simp only [F_thalwegref06_Proves, Extra_eq n moves hV hm, Option.bind_some, e2, provesL]
  cases ((spareL n moves).zip prices).all portP with
  | false => cases (n.Ways.zip moves).all (wayP prices) <;> rfl
  | true =>
    simp only [if_true, Option.bind_some, e1, Bool.and_true]
    cases (n.Ways.zip moves).all (wayP prices) <;> rfl
def provesR (n : TEmptyNet) (moves prices : List Int) : Bool × Int := bif netV n then (bif (possE n moves != 0) then (false, possE n moves) else (bif (priceE n prices != 0) then (false, priceE n prices) else (provesL n moves prices, 0))) else (false, 2)
theorem Proves_eq (n : TEmptyNet) (moves prices : List Int) (hp : n.Ports.length ≤ 1000) (hw : n.Ways.length ≤ 1000) (hl : prices.length ≤ 1000) : F_empties_Proves (n, moves, prices) = some (provesR n moves prices) := by
  simp only [F_empties_Proves, Check_eq n (by omega) (by omega), Option.bind_some, provesR]
  cases hV : netV n with
  | false => rfl
  | true =>
    simp only [cond_true, bne_self_eq_false, cond_false]
    rw [checkMoves_eq ⟨n, moves, prices⟩ hV]
    simp only [Option.bind_some]
    cases hq : (possE n moves != 0) with
    | true => rfl
    | false =>
      have h0 : possE n moves = 0 := by simpa using hq
      simp only [cond_false]
      rw [checkPrices_eq ⟨n, moves, prices⟩ hl]
      simp only [Option.bind_some]
      cases hr : (priceE n prices != 0) with
      | true => rfl
      | false =>
        have h2 : priceE n prices = 0 := by simpa using hr
        simp only [cond_false]
        rw [proved_eq ⟨n, moves, prices⟩ hV (possE_ne n moves h0) (priceE_ne n prices h2)]
        rfl
theorem proves_true (n : TEmptyNet) (moves prices : List Int) : F_thalweglaw06_EmptiesProves (n, moves, prices) = some true := by
  simp only [F_thalweglaw06_EmptiesProves, large_eq, Option.bind_some, known_eq]
  cases hb : (decide ((n.Ports.length : Int) > 70) || decide ((n.Ways.length : Int) > 320)) with
  | true => rfl
  | false =>
    simp only [cond_false]
    have hb' := hb
    simp only [Bool.or_eq_false_iff, decide_eq_false_iff_not] at hb'
    obtain ⟨h1, h2⟩ := hb'
    by_cases h3 : (moves.length : Int) > 320
    · rw [decide_eq_true h3]; rfl
    rw [decide_eq_false h3]
    simp only [cond_false]
    by_cases h4 : (prices.length : Int) > 70
    · rw [decide_eq_true h4]; rfl
    rw [decide_eq_false h4]
    simp only [cond_false]
    have hp : n.Ports.length ≤ 1000 := by omega
    have hw : n.Ways.length ≤ 1000 := by omega
    have hl : prices.length ≤ 1000 := by omega
    rw [copied_eq n hp hw, ints_eq moves (by omega), ints_eq prices hl]
    simp only [Option.bind_some]
    rw [Bound_eq n prices hp hw hl, Proves_eq n moves prices hp hw hl, equal_self prices hl, rNet_eq n (by omega) (by omega)]
    simp only [Option.bind_some, Bool.not_true, cond_false, boundR, provesR]
    cases hV : netV n with
    | false => rfl
    | true =>
      simp only [cond_true, Bool.not_true, cond_false]
      rw [Prices_eq n prices hl, Possible_eq n moves hV]
      simp only [Option.bind_some]
      cases hr : (priceE n prices != 0) with
      | true =>
        simp only [cond_true, bne_self_eq_false, cond_false]
        cases hq : (possE n moves != 0) with
        | true => simp
        | false => simp
      | false =>
        have h5 : priceE n prices = 0 := by simpa using hr
        simp only [cond_false, bne_self_eq_false]
        rw [rBound_eq n prices hV (priceE_ne n prices h5)]
        simp only [Option.bind_some, bne_self_eq_false, cond_false]
        cases hq : (possE n moves != 0) with
        | true => simp
        | false =>
          have h0 : possE n moves = 0 := by simpa using hq
          simp only [cond_false]
          rw [rProves_eq n moves prices hV (possE_ne n moves h0) (priceE_ne n prices h5)]
          simp
end Go.Ev
/- The laws on costs and proofs, by what is known of their arguments. -/
set_option linter.unusedVariables false
namespace Go.Ev
theorem costs_law {n : TEmptyNet} {m : List Int} (h1 : kTEmptyNet n) (h2 : kLIi64 m) : F_thalweglaw06_EmptiesCosts (n, m) = some true := costs_true n m
theorem proves_law {n : TEmptyNet} {m p : List Int} (h1 : kTEmptyNet n) (h2 : kLIi64 m) (h3 : kLIi64 p) : F_thalweglaw06_EmptiesProves (n, m, p) = some true := proves_true n m p
end Go.Ev
