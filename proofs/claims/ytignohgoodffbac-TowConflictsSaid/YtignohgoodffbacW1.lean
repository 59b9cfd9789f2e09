/- A part of the proof of TowConflicts. -/
import Derived.CallsIn
import Derived.Laws.Cover3
import Derived.Laws.IdiomCopy
import Derived.WalkKit
/- An evaluator over values (slices as lists), and what it means that a run of the model follows it. -/
set_option linter.unusedVariables false
namespace Go.Ev
open Go.RowKit

/-- Values without memory: a slice is the list of its cells. -/
inductive V where
  | top
  | v (x : Value)
  | agg (cs : List V)
  | tup (cs : List V)
  | sl (cs : List V) (n : Nat)
  | fptr (cs : List V)
  | fn (g : FuncId) (caps : List V)
  | box (b off : Nat)
  | osl (b n : Nat)
  | yld (b : Nat)
  | ag (cs : List V)
  deriving Inhabited

abbrev FZ := Nat → Nat → Prop
abbrev MP := Nat → Option (Nat × Nat)

def cellsAt (H : Array Obj) (g : Nat) : List Value :=
  match H[g]? with
  | some (.cells c _ _) => c.toList
  | _ => []

mutual
/-- A value of the model that holds what a clean value says. -/
def RC (F : FZ) (H : Array Obj) : V → Value → Prop
  | .top, _ => True
  | .v y, x => x = y
  | .agg cs, x => ∃ arr, x = .agg arr ∧ RCs F H true cs arr.toList
  | .tup cs, x => ∃ arr, x = .tuple arr ∧ RCs F H false cs arr.toList
  | .sl cs n, x => ∃ a cap, x = .slice a n cap ∧ n ≤ cap ∧ cap ≤ maxLen ∧ (cs = [] ∨ ∃ g off, a = some ⟨g, off, none⟩ ∧ (∀ j, j < cs.length → F g (off + j)) ∧
      RCs F H true cs (((cellsAt H g).drop off).take cs.length))
  | .fptr cs, x => ∃ g off, x = .pointer (some ⟨g, off, none⟩) ∧ (∀ j, j < cs.length → F g (off + j)) ∧ RCs F H true cs (((cellsAt H g).drop off).take cs.length)
  | .fn g caps, x => ∃ arr, x = .func (.func g) #[] arr ∧ RCs F H false caps arr.toList
  | .box _ _, _ => False
  | .osl _ _, _ => False
  | .yld _, _ => False
  | .ag _, _ => False
def RCs (F : FZ) (H : Array Obj) (one : Bool) : List V → List Value → Prop
  | [], [] => True
  | c :: cs, x :: xs => (RC F H c x ∧ (one = true → x.oneCell' = true)) ∧ RCs F H one cs xs
  | _, _ => False
end

theorem RCs_length {F : FZ} {H : Array Obj} {one : Bool} : ∀ {cs : List V} {xs : List Value}, RCs F H one cs xs → cs.length = xs.length
  | [], [], _ => rfl
  | _ :: cs, _ :: xs, h => by simp only [RCs] at h; simp [RCs_length h.2]
  | [], _ :: _, h => by simp [RCs] at h
  | _ :: _, [], h => by simp [RCs] at h

theorem RCs_iff {F : FZ} {H : Array Obj} {one : Bool} : ∀ {cs : List V} {xs : List Value},
    RCs F H one cs xs ↔ (cs.length = xs.length ∧ ∀ (i : Nat) (c : V) (x : Value), cs[i]? = some c → xs[i]? = some x → RC F H c x ∧ (one = true → x.oneCell' = true))
  | [], [] => by simp [RCs]
  | [], _ :: _ => by simp [RCs]
  | _ :: _, [] => by simp [RCs]
  | c :: cs, x :: xs => by
    simp only [RCs, List.length_cons, RCs_iff (cs := cs) (xs := xs)]
    constructor
    · rintro ⟨h0, h1, h2⟩
      refine ⟨by omega, fun i c' x' hc hx => ?_⟩
      cases i with
      | zero => simp at hc hx; subst hc hx; exact h0
      | succ i => simp at hc hx; exact h2 i c' x' hc hx
    · rintro ⟨h1, h2⟩
      exact ⟨h2 0 c x rfl rfl, by omega, fun i c' x' hc hx => h2 (i + 1) c' x' (by simpa using hc) (by simpa using hx)⟩

/-- What is kept from one heap to a later one: the cells that are frozen. -/
def Keeps (F : FZ) (H H' : Array Obj) : Prop := ∀ g j, F g j → (cellsAt H' g)[j]? = (cellsAt H g)[j]?

theorem Keeps.take {F : FZ} {H H' : Array Obj} (h : Keeps F H H') {g off n : Nat} (hF : ∀ j, j < n → F g (off + j)) :
    ((cellsAt H' g).drop off).take n = ((cellsAt H g).drop off).take n := by
  apply List.ext_getElem?
  intro i
  by_cases hi : i < n
  · simp only [List.getElem?_take, hi, if_true, List.getElem?_drop]
    exact h g (off + i) (hF i hi)
  · simp [List.getElem?_take, hi]

mutual
theorem RC.mono {F F' : FZ} {H H' : Array Obj} (hF : ∀ g j, F g j → F' g j) (hk : Keeps F H H') : ∀ (c : V) (x : Value), RC F H c x → RC F' H' c x
  | .top, _, _ => by simp [RC]
  | .v y, x, h => by simpa [RC] using h
  | .agg cs, x, h => by
    simp only [RC] at h ⊢
    obtain ⟨arr, rfl, h⟩ := h
    exact ⟨arr, rfl, RCs.mono hF hk cs _ h⟩
  | .tup cs, x, h => by
    simp only [RC] at h ⊢
    obtain ⟨arr, rfl, h⟩ := h
    exact ⟨arr, rfl, RCs.mono hF hk cs _ h⟩
  | .sl cs n, x, h => by
    simp only [RC] at h ⊢
    obtain ⟨a, cap, rfl, hn, hm, h⟩ := h
    refine ⟨a, cap, rfl, hn, hm, h.imp id ?_⟩
    rintro ⟨g, off, rfl, h1, h2⟩
    exact ⟨g, off, rfl, fun j hj => hF _ _ (h1 j hj), by rw [hk.take h1]; exact RCs.mono hF hk cs _ h2⟩
  | .fptr cs, x, h => by
    simp only [RC] at h ⊢
    obtain ⟨g, off, rfl, h1, h2⟩ := h
    exact ⟨g, off, rfl, fun j hj => hF _ _ (h1 j hj), by rw [hk.take h1]; exact RCs.mono hF hk cs _ h2⟩
  | .fn g caps, x, h => by
    simp only [RC] at h ⊢
    obtain ⟨arr, rfl, h⟩ := h
    exact ⟨arr, rfl, RCs.mono hF hk caps _ h⟩
  | .box _ _, _, h => by simp [RC] at h
  | .osl _ _, _, h => by simp [RC] at h
  | .yld _, _, h => by simp [RC] at h
  | .ag _, _, h => by simp [RC] at h
theorem RCs.mono {F F' : FZ} {H H' : Array Obj} {one : Bool} (hF : ∀ g j, F g j → F' g j) (hk : Keeps F H H') : ∀ (cs : List V) (xs : List Value), RCs F H one cs xs → RCs F' H' one cs xs
  | [], [], _ => by simp [RCs]
  | c :: cs, x :: xs, h => by
    simp only [RCs] at h ⊢
    exact ⟨⟨RC.mono hF hk c x h.1.1, h.1.2⟩, RCs.mono hF hk cs xs h.2⟩
  | [], _ :: _, h => by simp [RCs] at h
  | _ :: _, [], h => by simp [RCs] at h
end

/-- One level: a pointer to a variable of the call's own, or a clean value. -/
def RP (m : MP) (F : FZ) (H : Array Obj) : V → Value → Prop
  | .box b off, x => ∃ g c, m b = some (g, c) ∧ x = .pointer (some ⟨g, off, none⟩)
  | .osl b n, x => (∃ g cap, m b = some (g, cap) ∧ n ≤ cap ∧ x = .slice (some ⟨g, 0, none⟩) n cap) ∨ (n = 0 ∧ x = .slice none 0 0)
  | .yld b, x => ∃ g c, m b = some (g, c) ∧ x = .func (.yield g) #[] #[]
  | c, x => RC F H c x

/-- A value in a slot. -/
def RV (m : MP) (F : FZ) (H : Array Obj) : V → Value → Prop
  | .fn g caps, x => ∃ arr, x = .func (.func g) #[] arr ∧ caps.length = arr.toList.length ∧ ∀ (i : Nat) (c : V) (y : Value), caps[i]? = some c → arr.toList[i]? = some y → RP m F H c y
  | .ag cs, x => ∃ arr, x = .agg arr ∧ cs.length = arr.toList.length ∧ ∀ (i : Nat) (c : V) (y : Value), cs[i]? = some c → arr.toList[i]? = some y → RP m F H c y ∧ y.oneCell' = true
  | c, x => RP m F H c x

def RVs (m : MP) (F : FZ) (H : Array Obj) (cs : List V) (xs : List Value) : Prop :=
  cs.length = xs.length ∧ ∀ (i : Nat) (c : V) (x : Value), cs[i]? = some c → xs[i]? = some x → RV m F H c x ∧ x.oneCell' = true

theorem RP.of_RC {m : MP} {F : FZ} {H : Array Obj} {c : V} {x : Value} (h : RC F H c x) : RP m F H c x := by
  cases c <;> first | exact h | (simp [RC] at h)

theorem RV.of_RC {m : MP} {F : FZ} {H : Array Obj} {c : V} {x : Value} (h : RC F H c x) : RV m F H c x := by
  cases c
  case fn g caps =>
    simp only [RC] at h; obtain ⟨arr, rfl, h⟩ := h; rw [RCs_iff] at h; exact ⟨arr, rfl, h.1, fun i c y hc hy => RP.of_RC (h.2 i c y hc hy).1⟩
  case ag cs => simp [RC] at h
  all_goals (simp only [RV]; exact RP.of_RC h)

theorem RP.mono {m m' : MP} {F F' : FZ} {H H' : Array Obj} (hm : ∀ b y, m b = some y → m' b = some y) (hF : ∀ g j, F g j → F' g j) (hk : Keeps F H H') {c : V} {x : Value}
    (h : RP m F H c x) : RP m' F' H' c x := by
  cases c
  case box b off => obtain ⟨g, c, h1, h2⟩ := h; exact ⟨g, c, hm _ _ h1, h2⟩
  case osl b n =>
    rcases h with ⟨g, c, h1, h2⟩ | h
    · exact .inl ⟨g, c, hm _ _ h1, h2⟩
    · exact .inr h
  case yld b => obtain ⟨g, c, h1, h2⟩ := h; exact ⟨g, c, hm _ _ h1, h2⟩
  all_goals (simp only [RP] at h ⊢; exact RC.mono hF hk _ _ h)

theorem RV.mono {m m' : MP} {F F' : FZ} {H H' : Array Obj} (hm : ∀ b y, m b = some y → m' b = some y) (hF : ∀ g j, F g j → F' g j) (hk : Keeps F H H') {c : V} {x : Value}
    (h : RV m F H c x) : RV m' F' H' c x := by
  cases c
  case fn g caps => obtain ⟨arr, rfl, h1, h2⟩ := h; exact ⟨arr, rfl, h1, fun i c y hc hy => (h2 i c y hc hy).mono hm hF hk⟩
  case ag cs => obtain ⟨arr, rfl, h1, h2⟩ := h; exact ⟨arr, rfl, h1, fun i c y hc hy => ⟨(h2 i c y hc hy).1.mono hm hF hk, (h2 i c y hc hy).2⟩⟩
  all_goals (simp only [RV] at h ⊢; exact RP.mono hm hF hk h)

/-- The record of a range over a function: the slots that a round begins with; the left sides; the state. -/
structure LoopX where
  tm : List (Nat × V)
  sz : Nat
  ps : Array Tmp
  assign : Code
  body : Code
  state : LoopState
  pending : Option Code

/-- Boxes: a variable of the call's own (its cells; whether it is frozen); the row of a slice that the call made (element type, cells of an element, cells, how many are frozen). -/
inductive Bx where
  | var (cs : List V) (frozen : Bool)
  | row (e : TypeId) (size : Nat) (cs : List V) (p : Nat)
  | loop (r : LoopX)
  | mark (open_ : Bool)
  | dead
  | nest (e e2 : TypeId) (s2 : Nat) (cs : List V) (hole : List Nat)
  deriving Inhabited

noncomputable def look {α : Type} (l : List (Nat × α)) (j : Nat) : Option α :=
  List.rec (motive := fun _ => Option α) none (fun p _ ih => Bool.rec (motive := fun _ => Option α) ih (some p.2) (Nat.beq p.1 j)) l
@[simp] theorem look_nil {α : Type} (j : Nat) : look ([] : List (Nat × α)) j = none := rfl
theorem look_cons {α : Type} (i j : Nat) (x : α) (l : List (Nat × α)) : look ((i, x) :: l) j = if i = j then some x else look l j := by
  show Bool.rec (motive := fun _ => Option α) (look l j) (some x) (Nat.beq i j) = _
  by_cases h : i = j
  · subst h
    rw [if_pos rfl, Nat.beq_refl]
  · have : Nat.beq i j = false := by
      cases e : Nat.beq i j with
      | false => rfl
      | true => exact absurd (Nat.eq_of_beq_eq_true e) h
    rw [if_neg h, this]

def RBx (O : Nat → Prop) (m : MP) (F : FZ) (H : Array Obj) (b : Nat) : Bx → Prop
  | .var cs fz => ∃ g c arr ty, m b = some (g, c) ∧ O g ∧ H[g]? = some (.cells arr ty (0, 0)) ∧ RVs m F H cs arr.toList ∧
      (∀ j, F g j → fz = true) ∧ (fz = true → ∀ j, j < cs.length → F g j)
  | .row e size cs p => (∃ g cap cur, m b = some (g, cap) ∧ O g ∧ H[g]? = some (.cells cur e (0, 0)) ∧ cap ≤ maxLen ∧ cur.size = cap * size ∧ 0 < size ∧
      RCs F H true cs (cur.toList.take cs.length) ∧ (∀ j, F g j → j < p) ∧ (∀ j, j < p → F g j) ∧ p ≤ cs.length) ∨ (m b = none ∧ cs = [] ∧ p = 0)
  | .loop r => ∃ g c l, m b = some (g, c) ∧ O g ∧ H[g]? = some (.loop l) ∧ (∀ j, ¬ F g j) ∧ l.state = r.state ∧ l.pending = r.pending ∧ l.params = r.ps ∧ l.assign = r.assign ∧ l.body = r.body ∧
      l.tmps.size = r.sz ∧ ∀ i, RV m F H ((look r.tm i).getD .top) (l.tmps.getD i undef)
  | .mark p => ∃ g c, m b = some (g, c) ∧ O g ∧ H[g]? = some (.deferred (if p then some [] else none)) ∧ ∀ j, ¬ F g j
  | .dead => True
  | .nest e _ _ cs hole => (∃ g cap cur, m b = some (g, cap) ∧ O g ∧ H[g]? = some (.cells cur e (0, 0)) ∧ cap ≤ maxLen ∧ cur.size = cap ∧ cs.length ≤ cap ∧ ∀ j, ¬ F g j) ∨ (m b = none ∧ cs = [] ∧ hole = [])

/-- A list of lists that is there. -/
theorem RBx.nreal {O : Nat → Prop} {m : MP} {F : FZ} {H : Array Obj} {b g c : Nat} {e e2 : TypeId} {s2 : Nat} {cs : List V} {hole : List Nat} (h : RBx O m F H b (.nest e e2 s2 cs hole)) (hm : m b = some (g, c)) :
    O g ∧ ∃ cur, H[g]? = some (.cells cur e (0, 0)) ∧ c ≤ maxLen ∧ cur.size = c ∧ cs.length ≤ c ∧ ∀ j, ¬ F g j := by
  rcases h with ⟨g1, cap, cur, h1, h2, h3, h4, h5, h6, h7⟩ | ⟨h, _⟩
  · rw [hm] at h1; cases h1; exact ⟨h2, cur, h3, h4, h5, h6, h7⟩
  · rw [hm] at h; cases h

/-- A row that is there. -/
theorem RBx.real {O : Nat → Prop} {m : MP} {F : FZ} {H : Array Obj} {b g c : Nat} {e : TypeId} {size p : Nat} {cs : List V} (h : RBx O m F H b (.row e size cs p)) (hm : m b = some (g, c)) : ∃ g cap cur, m b = some (g, cap) ∧ O g ∧ H[g]? = some (.cells cur e (0, 0)) ∧ cap ≤ maxLen ∧ cur.size = cap * size ∧ 0 < size ∧
      RCs F H true cs (cur.toList.take cs.length) ∧ (∀ j, F g j → j < p) ∧ (∀ j, j < p → F g j) ∧ p ≤ cs.length := by
  rcases h with h | ⟨h, _⟩
  · exact h
  · rw [hm] at h; cases h

def aliveB (st : List (Nat × Bx)) (b : Nat) : Prop := ∃ x, look st b = some x ∧ x ≠ .dead

/-- What a call leaves as it was: all blocks that are not its own. -/
structure Own (O : Nat → Prop) (w w' : World) : Prop where
  os : w'.os = w.os
  tape : w'.tape = w.tape
  output : w'.output = w.output
  size : w.heap.size ≤ w'.heap.size
  block : ∀ k, ¬ O k → w'.heap[k]? = w.heap[k]?

theorem Own.refl (O : Nat → Prop) (w : World) : Own O w w := ⟨rfl, rfl, rfl, Nat.le_refl _, fun _ _ => rfl⟩
theorem Own.trans {O : Nat → Prop} {a b c : World} (h : Own O a b) (k : Own O b c) : Own O a c :=
  ⟨k.os.trans h.os, k.tape.trans h.tape, k.output.trans h.output, Nat.le_trans h.size k.size, fun i hi => (k.block i hi).trans (h.block i hi)⟩
theorem Own.drew {O : Nat → Prop} {a w : World} (h : Own O a w) : Own O a w.drew := ⟨h.os, h.tape, h.output, h.size, h.block⟩
theorem Own.alloc {O : Nat → Prop} {a w : World} (h : Own O a w) (hO : ∀ g, a.heap.size ≤ g → O g) (o : Obj) : Own O a (w.alloc o) :=
  h.trans ⟨rfl, rfl, rfl, by simp, fun k hk => Below.heap_alloc _ _ _ (by
    rcases Nat.lt_or_ge k w.heap.size with e | e
    · exact e
    · exact absurd (hO _ (Nat.le_trans h.size e)) hk)⟩
theorem Own.mono {O O' : Nat → Prop} {w w' : World} (h : Own O w w') (hO : ∀ g, O g → O' g) : Own O' w w' := ⟨h.os, h.tape, h.output, h.size, fun k hk => h.block k fun e => hk (hO k e)⟩
theorem Own.below {w w' : World} (h : Own (fun g => w.heap.size ≤ g) w w') : Below w.heap.size w w' := ⟨h.os, h.tape, h.output, h.size, fun k hk => h.block k (by omega)⟩

/-- A list in the cell i of a list of lists of the call's own: its block is nobody else's (L: block, box, cell). -/
def NIn (F : FZ) (H : Array Obj) (L : Nat → Nat → Nat → Prop) (b i : Nat) (e2 : TypeId) (s2 : Nat) (x : Value) (c : V) : Prop :=
  ∃ ls n, c = .sl ls n ∧ n * s2 = ls.length ∧ 0 < s2 ∧ ((x = .slice none 0 0 ∧ n = 0) ∨ ∃ g cap cur, x = .slice (some ⟨g, 0, none⟩) n cap ∧ L g b i ∧ n ≤ cap ∧ cap ≤ maxLen ∧ H[g]? = some (.cells cur e2 (0, 0)) ∧
    cur.size = cap * s2 ∧ RCs F H true ls (cur.toList.take ls.length))

/-- What is in a list of lists. -/
def NX (L : Nat → Nat → Nat → Prop) (m : MP) (F : FZ) (H : Array Obj) (b : Nat) : Bx → Prop
  | .nest _ e2 s2 cs hole => ∀ g cap, m b = some (g, cap) → ∀ (i : Nat) (c : V), cs[i]? = some c → i ∉ hole → ∃ x, (cellsAt H g)[i]? = some x ∧ NIn F H L b i e2 s2 x c
  | _ => True

/-- The blocks in lists of lists are nobody else's. -/
structure NOK (O : Nat → Prop) (F : FZ) (m : MP) (st : List (Nat × Bx)) (H : Array Obj) (L : Nat → Nat → Nat → Prop) : Prop where
  lo : ∀ g b i, L g b i → O g ∧ g < H.size ∧ ∀ j, ¬ F g j
  un : ∀ g b i b' i', L g b i → L g b' i' → b = b' ∧ i = i'
  al : ∀ b g c, aliveB st b → m b = some (g, c) → ∀ b' i, ¬ L g b' i
  nx : ∀ b x, look st b = some x → NX L m F H b x

structure Rel (O : Nat → Prop) (w0 : World) (F0 : FZ) (M0 : MP) (D : List Deferred) (U : Nat → Prop) (F : FZ) (m : MP) (sz : Nat) (tm : List (Nat × V)) (st : List (Nat × Bx)) (a : Act) (w : World) : Prop where
  htm : ∀ i, RV m F w.heap ((look tm i).getD .top) (a.tmps.getD i undef)
  hsz : a.tmps.size = sz
  hde : a.defers = D
  hst : ∀ b x, look st b = some x → RBx O m F w.heap b x
  inj : ∀ b b' g c c', aliveB st b → aliveB st b' → m b = some (g, c) → m b' = some (g, c') → b = b'
  fresh : ∀ b, U b → look st b = none ∧ m b = none
  f0 : ∀ g j, F0 g j → F g j
  f1 : ∀ g j, F g j → F0 g j ∨ O g
  f2 : ∀ g j, F g j → g < w.heap.size
  mlt : ∀ b g c, m b = some (g, c) → g < w.heap.size
  pin : ∀ b y, M0 b = some y → m b = some y
  keep : Keeps F0 w0.heap w.heap
  below : Own O w0 w
  hb : ∀ g, w0.heap.size ≤ g → O g
  nst : ∃ L, NOK O F m st w.heap L

end Go.Ev
/- What the operations do, over values. -/
set_option linter.unusedVariables false
namespace Go.Ev
open Go.RowKit
noncomputable section

/-- Whatever a value says, the other says. -/
structure LeV (a b : V) : Prop where
  le : ∀ (F : FZ) (H : Array Obj) (x : Value), RC F H a x → RC F H b x
structure LeVs (cs0 ds0 : List V) : Prop where
  le : ∀ (F : FZ) (H : Array Obj) (one : Bool) (xs : List Value), RCs F H one cs0 xs → RCs F H one ds0 xs
theorem lev_eq {a b : V} (h : a = b) : LeV a b := by subst h; exact ⟨fun _ _ _ h => h⟩
theorem levs_eq {a b : List V} (h : a = b) : LeVs a b := by subst h; exact ⟨fun _ _ _ _ h => h⟩
theorem lev_nil : LeV (.v (.slice none 0 0)) (.sl [] 0) := by
  refine ⟨fun F H x h => ?_⟩
  simp only [RC] at h
  unfold RC
  exact ⟨none, 0, h, Nat.le_refl _, Nat.zero_le _, .inl rfl⟩
theorem levs_cons {a b : V} {cs0 ds0 : List V} (h : LeV a b) (k : LeVs cs0 ds0) : LeVs (a :: cs0) (b :: ds0) := by
  refine ⟨fun F H one xs hx => ?_⟩
  cases xs with
  | nil => simp [RCs] at hx
  | cons x xs => simp only [RCs] at hx ⊢; exact ⟨⟨h.le F H x hx.1.1, hx.1.2⟩, k.le F H one xs hx.2⟩
theorem lev_tup {cs0 ds0 : List V} (h : LeVs cs0 ds0) : LeV (.tup cs0) (.tup ds0) := by
  refine ⟨fun F H x hx => ?_⟩
  simp only [RC] at hx ⊢
  obtain ⟨arr, rfl, hx⟩ := hx
  exact ⟨arr, rfl, h.le F H _ _ hx⟩
theorem lev_agg {cs0 ds0 : List V} (h : LeVs cs0 ds0) : LeV (.agg cs0) (.agg ds0) := by
  refine ⟨fun F H x hx => ?_⟩
  simp only [RC] at hx ⊢
  obtain ⟨arr, rfl, hx⟩ := hx
  exact ⟨arr, rfl, h.le F H _ _ hx⟩
/-- What a function does to boxes that are handed to it (they are 0, 1, ..): which arguments are handed over as they are; the boxes before and after. -/
structure Eff (α : Type) where
  own : List Bool
  pre : α → List Bx
  post : α → List Bx

/-- How a call hands over and back: what is handed over is frozen, or lent; what is handed back is frozen, or the caller's own list. -/
inductive How where
  | keep
  | lend
  | fresh (e : TypeId) (size : Nat)
  | lendF (e : TypeId) (size : Nat)
  | freshA (i : Nat) (e : TypeId) (size : Nat)

/-- What a function asks of its arguments, and what it returns. -/
structure Con where
  α : Type
  enc : α → List V
  ok : α → Prop
  res : α → V
  eff : Option (Eff α) := none
  frs : How := .keep

/-- The work of an operation: it asks, reads and writes boxes. -/
inductive RM : Type 1 where
  | fail
  | ret (v : V)
  | req (p : Prop) (k : RM)
  | dec (p : Prop) (k : RM) [d : Decidable p]
  | exi (α : Type) (p : α → Prop) (k : α → RM)
  | get (b : Nat) (k : Bx → RM)
  | put (b : Nat) (x : Bx) (k : RM)

def RM.go : RM → List (Nat × Bx) → (V → List (Nat × Bx) → Prop) → Prop
  | .fail, _, _ => False
  | .ret v, st, K => K v st
  | .req p k, st, K => p ∧ k.go st K
  | @RM.dec p k _, st, K => p ∧ k.go st K
  | .exi _ p k, st, K => ∃ x, p x ∧ (k x).go st K
  | .get b k, st, K => match look st b with
    | some x => (k x).go st K
    | none => False
  | .put b x k, st, K => k.go ((b, x) :: st) K

def RM.bind : RM → (V → RM) → RM
  | .fail, _ => .fail
  | .ret v, f => f v
  | .req p k, f => .req p (k.bind f)
  | @RM.dec p k d, f => @RM.dec p (k.bind f) d
  | .exi α p k, f => .exi α p fun x => (k x).bind f
  | .get b k, f => .get b fun x => (k x).bind f
  | .put b x k, f => .put b x (k.bind f)

/-- Return a value, reckoned as far as its head. -/
def RM.retF : V → RM
  | .top => .ret .top
  | .v x => .ret (.v x)
  | .agg cs => .ret (.agg cs)
  | .tup cs => .ret (.tup cs)
  | .sl cs n => .ret (.sl cs n)
  | .fptr cs => .ret (.fptr cs)
  | .fn g caps => .ret (.fn g caps)
  | .box b off => .ret (.box b off)
  | .osl b n => .ret (.osl b n)
  | .yld b => .ret (.yld b)
  | .ag cs => .ret (.ag cs)
theorem RM.retF_eq (c : V) : RM.retF c = .ret c := by cases c <;> rfl

/-- A list that was made by a call, and is the caller's own now. -/
def freshR (id : Nat) (e : TypeId) (size : Nat) : V → RM
  | .sl cs n => .put id (.row e size cs 0) (.ret (.osl id n))
  | _ => .fail

/-- A value with a list in its cell i that was made by a call, and is the caller's own now. -/
def freshRA (id i : Nat) (e : TypeId) (size : Nat) : V → RM
  | .agg cs => match cs[i]? with
    | some (.sl ds n) => .put id (.row e size ds 0) (.ret (.ag (cs.set i (.osl id n))))
    | _ => .fail
  | _ => .fail

/-- One of two ways. -/
def br (b : Bool) (x y : Prop) : Prop := match b with
  | true => x
  | false => y
theorem br_intro {b : Bool} {x y : Prop} (h : b = true → x) (k : b = false → y) : br b x y := by
  cases b
  · exact k rfl
  · exact h rfl
theorem br_elim {b : Bool} {x y : Prop} (h : br b x y) : (b = true → x) ∧ (b = false → y) := by
  cases b
  · exact ⟨fun e => absurd e (by simp), fun _ => h⟩
  · exact ⟨fun _ => h, fun e => absurd e (by simp)⟩

def mapRM (f : V → (V → RM) → RM) : List V → (List V → RM) → RM
  | [], k => k []
  | c :: cs, k => f c fun c' => mapRM f cs fun cs' => k (c' :: cs')

/-- A value made clean: what it points to is frozen. -/
def fz : Nat → V → (V → RM) → RM
  | 0, _, _ => .fail
  | d + 1, c, k => match c with
    | .osl b n => .get b fun
      | .row e size cs p => .dec (n * size = cs.length) (.put b (.row e size cs cs.length) (k (.sl cs n)))
      | .nest e _ _ cs [] => .dec (n * 1 = cs.length) (.put b (.row e 1 cs cs.length) (k (.sl cs n)))
      | _ => .fail
    | .box b off => .get b fun
      | .row e size cs p => .put b (.row e size cs cs.length) (k (.fptr (cs.drop off)))
      | .var cs _ => mapRM (fz d) cs fun cs' => .put b (.var cs' true) (k (.fptr (cs'.drop off)))
      | _ => .fail
    | .yld _ => .fail
    | .fn g caps => mapRM (fz d) caps fun caps' => k (.fn g caps')
    | .top => k .top
    | .v x => k (.v x)
    | .agg cs => k (.agg cs)
    | .ag cs => mapRM (fz d) cs fun cs' => k (.agg cs')
    | .tup cs => k (.tup cs)
    | .sl cs n => k (.sl cs n)
    | .fptr cs => k (.fptr cs)

/-- A list is lent: nobody writes it while the call goes on. -/
def bz (c : V) (k : V → RM) : RM := match c with
  | .osl b n => .get b fun
    | .row e size cs p => .dec (n * size = cs.length) (k (.sl cs n))
    | .nest _ _ _ cs [] => .dec (n * 1 = cs.length) (k (.sl cs n))
    | _ => .fail
  | c => fz 4 c k

def fzs (cs : List V) (k : List V → RM) : RM := mapRM (fz 4) cs k

def renP (r : List (Nat × Nat)) : V → Option V
  | .box b off => (look r b).map fun b' => .box b' off
  | .osl b n => (look r b).map fun b' => .osl b' n
  | .yld b => (look r b).map .yld
  | c => some c
def renV (r : List (Nat × Nat)) : V → Option V
  | .fn g caps => (caps.mapM (renP r)).map (.fn g)
  | .ag cs => (cs.mapM (renP r)).map .ag
  | c => renP r c
def renX (r : List (Nat × Nat)) : Bx → Option Bx
  | .var cs f => (cs.mapM (renV r)).map (.var · f)
  | .loop _ => none
  | .mark _ => none
  | x => some x

/-- The boxes that are handed over, by their place. -/
def idx (bs : List Nat) : List (Nat × Nat) := (List.range bs.length).zip bs

def ownR : List Bool → List V → (List V → RM) → RM
  | [], cs, k => mapRM (fz 4) cs k
  | _ :: _, [], k => k []
  | o :: os, c :: cs, k => match o with
    | true => ownR os cs fun cs' => k (c :: cs')
    | false => fz 4 c fun c' => ownR os cs fun cs' => k (c' :: cs')

def getsR (r : List (Nat × Nat)) : List Nat → List Bx → RM → RM
  | [], [], k => k
  | b :: bs, p :: ps, k => match p with
    | .dead => .fail
    | .row _ _ _ _ => .fail
    | .nest _ _ _ _ _ => .fail
    | p => .get b fun y => .req (renX r p = some y) (getsR r bs ps k)
  | _, _, _ => .fail

def putsR (r : List (Nat × Nat)) : List Nat → List Bx → RM → RM
  | [], [], k => k
  | b :: bs, p :: ps, k => match p with
    | .row _ _ _ _ => .fail
    | .nest _ _ _ _ _ => .fail
    | p => match renX r p with
      | some y => .put b y (putsR r bs ps k)
      | none => .fail
  | _, _, _ => .fail

section
variable (P : Program)

/-- The same number, reckoned out. -/
def forceO (n : Nat) : Option Nat := match n with
  | 0 => some 0
  | 1 => some 1
  | 2 => some 2
  | 3 => some 3
  | 4 => some 4
  | 5 => some 5
  | 6 => some 6
  | 7 => some 7
  | 8 => some 8
  | 9 => some 9
  | 10 => some 10
  | 11 => some 11
  | 12 => some 12
  | 13 => some 13
  | 14 => some 14
  | 15 => some 15
  | 16 => some 16
  | 17 => some 17
  | 18 => some 18
  | 19 => some 19
  | 20 => some 20
  | 21 => some 21
  | 22 => some 22
  | 23 => some 23
  | 24 => some 24
  | 25 => some 25
  | 26 => some 26
  | 27 => some 27
  | 28 => some 28
  | 29 => some 29
  | 30 => some 30
  | 31 => some 31
  | 32 => some 32
  | 33 => some 33
  | 34 => some 34
  | 35 => some 35
  | 36 => some 36
  | 37 => some 37
  | 38 => some 38
  | 39 => some 39
  | 40 => some 40
  | n => some n
@[simp] theorem forceO_eq (n : Nat) : forceO n = some n := by unfold forceO; split <;> rfl

def szOf (t : TypeId) : Option Nat := (P.info? t).bind fun i => forceO i.size
def bytesOf (t : TypeId) : Option Nat := (P.info? t).map (·.bytes)
def zeroOf (t : TypeId) : Option (List V) := match P.info? t with
  | some i => match i.zero with
    | some z => if z.cells.toList.all (·.oneCell') && z.cells.size == i.size then some (z.cells.toList.map V.v) else none
    | none => none
  | none => none
def aggOf (t : TypeId) : Option Bool := (P.underlying t).map fun | .struct _ | .array _ _ => true | _ => false
def fieldAt? (s : TypeId) (f : Nat) : Option (Nat × TypeId) := match P.underlying s with
  | some (.struct fs) => (fs[f]?).bind fun x => (forceO x.offset).map fun o => (o, x.type)
  | _ => none
def placesOf (t : TypeId) : Option (Nat → Option (Nat × Nat)) := match P.underlying t with
  | some (.struct fs) => match fs.toList.mapM (fun f => (P.info? f.type).map fun i => (f.offset, i.size)) with
    | some l => some fun i => l.toArray[i]?
    | none => none
  | some (.array _ e) => match P.info? e with
    | some ie => some fun i => some (i * ie.size, ie.size)
    | none => none
  | _ => none
def elemOf? (t : TypeId) : Option TypeId := match P.underlying t with
  | some (.slice e) => some e
  | _ => none
/-- The elements of a slice, and their size. -/
def nestOf (e : TypeId) : Option (TypeId × Nat) := match elemOf? P e, szOf P e, zeroOf P e with
  | some e2, some 1, some [.v (.slice none 0 0)] => match szOf P e2 with
    | some (s + 1) => some (e2, s + 1)
    | _ => none
  | _, _, _ => none
def arrOf? (t : TypeId) : Option (Nat × TypeId) := match P.underlying t with
  | some (.array n e) => some (n, e)
  | _ => none
def intOf? (t : TypeId) : Option IntKind := match P.underlying t with
  | some (.int k) => some k
  | _ => none

/-- The cells of a value that is stored. -/
def cellsOf : V → Option (List V)
  | .agg cs => some cs
  | .ag cs => some cs
  | .v x => if x.oneCell' then some [.v x] else none
  | .sl cs n => some [.sl cs n]
  | .fptr cs => some [.fptr cs]
  | .fn g caps => some [.fn g caps]
  | .box b off => some [.box b off]
  | .osl b n => some [.osl b n]
  | .yld _ => none
  | .top => none
  | .tup _ => none

/-- Read a variable of type t out of cells. -/
def takeR (t : TypeId) (cs : List V) (off : Nat) (k : V → RM) : RM :=
  match aggOf P t, szOf P t with
  | some true, some (n + 1) => .dec (off + (n + 1) ≤ cs.length) (k (.agg ((cs.drop off).take (n + 1))))
  | some false, some _ => .dec (off < cs.length) (k ((cs[off]?).getD .top))
  | _, _ => .fail

def fillR (place : Nat → Option (Nat × Nat)) (cells : List V) : List (Nat × V) → (List V → RM) → RM
  | [], k => k cells
  | (i, x) :: rest, k => match place i, cellsOf x with
    | some (off, size), some cs => .dec (cs.length = size ∧ off + size ≤ cells.length) (fillR place (cells.take off ++ cs ++ cells.drop (off + size)) rest k)
    | _, _ => .fail

def intBin (op : BinOp) (k : IntKind) (a b : Int) : RM :=
  match op with
  | .add => .ret (.v (.int k (k.wrap (a + b))))
  | .sub => .ret (.v (.int k (k.wrap (a - b))))
  | .mul => .ret (.v (.int k (k.wrap (a * b))))
  | .quo => .dec (b ≠ 0) (.ret (.v (.int k (k.wrap (a.tdiv b)))))
  | .rem => .dec (b ≠ 0) (.ret (.v (.int k (a.tmod b))))
  | .eql => .ret (.v (.bool (a == b)))
  | .neq => .ret (.v (.bool (a != b)))
  | .lss => .ret (.v (.bool (decide (a < b))))
  | .leq => .ret (.v (.bool (decide (a ≤ b))))
  | .gtr => .ret (.v (.bool (decide (a > b))))
  | .geq => .ret (.v (.bool (decide (a ≥ b))))
  | .shl => .dec (0 ≤ b) (.ret (.v (.int k (k.wrap (a * 2 ^ (min b.toNat k.bits))))))
  | .shr => .dec (0 ≤ b) (.ret (.v (.int k (a.fdiv (2 ^ (min b.toNat k.bits))))))
  | _ => .fail

/-- May the kinds of two operands differ? -/
def shiftB : BinOp → Bool
  | .shl => true
  | .shr => true
  | _ => false

def flatFs (f : TypeId → Option (List Bool)) : List Field → Nat → Option (List Bool)
  | [], n => some []
  | x :: fs, n => if x.name = "_" ∨ x.offset ≠ n then none else match f x.type with
    | some ks => if szOf P x.type = some ks.length then (flatFs f fs (n + ks.length)).map (ks ++ ·) else none
    | none => none

/-- The cells of a type whose values are compared cell by cell: true: an integer; false: a bool. -/
def flatOf : Nat → TypeId → Option (List Bool)
  | 0, _ => none
  | d + 1, t => match P.underlying t with
    | some (.int _) => some [true]
    | some .bool => some [false]
    | some (.struct fs) => if P.stoodInHeld t then none else flatFs P (flatOf d) fs.toList 0
    | _ => none

def eqCell : Bool → V → V → Option Bool
  | true, .v (.int j a), .v (.int k b) => if j = k then some (a == b) else none
  | false, .v (.bool a), .v (.bool b) => some (a == b)
  | _, _, _ => none
def eqCells : List Bool → List V → List V → Option Bool
  | [], [], [] => some true
  | k :: ks, c :: cs, d :: ds => match eqCell k c d, eqCells ks cs ds with
    | some a, some b => some (a && b)
    | _, _ => none
  | _, _, _ => none

def minmax (mx : Bool) (a b : Int) : Int := if mx then (if b > a then b else a) else (if b < a then b else a)

def notFn : V → Bool
  | .ag _ => false
  | .fn _ _ => false
  | _ => true

/-- Cells with a list of the call's own among them. -/
def isOsl : V → Bool
  | .osl _ _ => true
  | _ => false
def ownAg (cs : List V) : Bool := cs.any isOsl && cs.all notFn

def lenR (t : TypeId) (x : V) : RM := match x, elemOf? P t with
  | .sl _ n, some _ => .retF (.v (.int .i64 n))
  | .osl _ n, some _ => .retF (.v (.int .i64 n))
  | .v (.slice none 0 0), some _ => .retF (.v (.int .i64 0))
  | _, _ => .fail

def intV : V → Option (IntKind × Int)
  | .v (.int k n) => some (k, n)
  | _ => none

def minmaxR (mx : Bool) (l : List V) : RM := match l.map intV with
  | [some (k, a)] => .retF (.v (.int k a))
  | [some (k, a), some (_, b)] => .retF (.v (.int k (minmax mx a b)))
  | [some (k, a), some (_, b), some (_, c)] => .retF (.v (.int k (minmax mx (minmax mx a b) c)))
  | _ => .fail

/-- The cells of what is appended. -/
def srcR : V → (List V → Nat → RM) → RM
  | .sl cs n, k => k cs n
  | .osl b n, k => .get b fun
    | .row _ size cs _ => .dec (n * size = cs.length) (k cs n)
    | _ => .fail
  | .v (.slice none 0 0), k => k [] 0
  | .v (.slice _ 0 _), k => k [] 0
  | _, _ => .fail

def appendR (id : Nat) (t u : TypeId) (s x : V) : RM :=
  if t ≠ u then .fail else
  match elemOf? P t with
  | none => .fail
  | some e => match szOf P e, bytesOf P e, zeroOf P e with
    | some size, some bytes, some _ => srcR x fun new k =>
      .dec (k * size = new.length ∧ 0 < size) (match s with
      | .v (.slice none 0 0) => .dec (k ≤ maxLen ∧ k * bytes ≤ 140737488355328 ∧ 0 < k) (.put id (.row e size new 0) (.ret (.osl id k)))
      | .osl b n => .get b fun
        | .row e' size' cs p => if e' = e ∧ size' = size then .dec (n * size = cs.length ∧ n + k ≤ maxLen ∧ (n + k) * bytes ≤ 140737488355328)
            (.put b .dead (.put id (.row e size (cs ++ new) p) (.ret (.osl id (n + k))))) else .fail
        | _ => .fail
      | _ => .fail)
    | _, _, _ => .fail

/-- What is copied is as long as what it is copied to. -/
def copyR (t : TypeId) (s x : V) : RM :=
  match elemOf? P t with
  | none => .fail
  | some e => match szOf P e, s with
    | some 1, .osl b n => srcR x fun new k => .dec (k = n ∧ new.length = n ∧ 0 < n) (.get b fun
      | .row e' size cs 0 => .dec (n ≤ cs.length) (.put b (.row e' size (new ++ cs.drop n) 0) (.retF (.v (.int .i64 n))))
      | _ => .fail)
    | _, _ => .fail

def boundI (ρ : Operand → V) (o : Option Operand) (d : Int) : Option Int := match o with
  | none => some d
  | some o => (intV (ρ o)).map (·.2)

/-- One of two values; of two bools whose choice is open: and, or. -/
def pickR (c : Bool) (x y : V) : RM := match c with
  | true => .retF x
  | false => .retF y

/-- Load a variable of type t from the cell off of a box. -/
def loadX (t : TypeId) (off : Nat) : Bx → RM
  | .row _ _ cs _ => takeR P t cs off .retF
  | .var cs _ => takeR P t cs off fun
    | .agg cs' => match ownAg cs' with
      | true => .ret (.ag cs')
      | false => fzs cs' fun cs'' => .ret (.agg cs'')
    | c => .retF c
  | _ => .fail

def loadR (t : TypeId) : V → RM
  | .fptr cs => takeR P t cs 0 .retF
  | .box b off => .get b (loadX P t off)
  | _ => .fail

/-- Lists of the call's own, each taken whole. -/
def takeAll (e2 : TypeId) (s2 : Nat) : List V → (List V → RM) → RM
  | [], k => k []
  | c :: l, k => match c with
    | .osl b n => .get b fun
      | .row e' s' ls 0 => if e' = e2 ∧ s' = s2 then .dec (n * s2 = ls.length ∧ 0 < s2) (.put b .dead (takeAll e2 s2 l fun cs => k (.sl ls n :: cs))) else .fail
      | _ => .fail
    | .v (.slice none 0 0) => takeAll e2 s2 l fun cs => k (.sl [] 0 :: cs)
    | _ => .fail
def isOwnL : V → Bool
  | .osl _ _ => true
  | .v (.slice none 0 0) => true
  | _ => false
def ownL : List V → Bool
  | [] => false
  | [_] => false
  | c :: d :: cs => (c :: d :: cs).all isOwnL

def opR (C : FuncId → Option Con) (id : Nat) (ρ : Operand → V) : Op → RM
  | .move x => .retF (ρ x)
  | .assign x => .retF (ρ x)
  | .pick c a b => match ρ c with
    | .v (.bool c) => pickR c (ρ a) (ρ b)
    | _ => .fail
  | .alloc t => match zeroOf P t with
    | some z => .put id (.var z false) (.ret (.box id 0))
    | none => .fail
  | .box _ x => match cellsOf (ρ x) with
    | some cs => .put id (.var cs false) (.ret (.box id 0))
    | none => .fail
  | .build t parts => match zeroOf P t, placesOf P t with
    | some z, some pl => fillR pl z (parts.toList.map fun (i, x) => (i, ρ x)) fun cs => match ownAg cs with
      | true => .ret (.ag cs)
      | false => fzs cs fun cs' => .ret (.agg cs')
    | _, _ => .fail
  | .buildSlice t n parts => match elemOf? P t with
    | some e => match szOf P e, zeroOf P e with
      | some size, some z => if 0 < size ∧ n * size ≤ 2 ^ 24 then
          fillR (fun i => some (i * size, size)) ((List.range (n * size)).map fun i => (z[i % size]?).getD .top) (parts.toList.map fun (i, x) => (i, ρ x)) fun cs =>
            match nestOf P e, ownL cs with
            | some (e2, s2), true => takeAll e2 s2 cs fun cs' => .put id (.nest e e2 s2 cs' []) (.ret (.osl id n))
            | _, _ => fzs cs fun cs' => .put id (.row e size cs' 0) (.ret (.osl id n)) else .fail
      | _, _ => .fail
    | none => .fail
  | .load t a => match ρ a with
    | .box b off => .get b fun
      | .nest e e2 s2 cs hole => match aggOf P t with
        | some false => .exi (List V × Nat) (fun y => cs[off]? = some (.sl y.1 y.2) ∧ off ∉ hole) fun y => .put b (.nest e e2 s2 cs (off :: hole)) (.put id (.row e2 s2 y.1 0) (.ret (.osl id y.2)))
        | _ => .fail
      | x => loadX P t off x
    | v => loadR P t v
  | .store t a x => match ρ a, cellsOf (ρ x), szOf P t with
    | .box b off, some new, some n => .get b fun
      | .var cs false => .dec (new.length = n ∧ off + n ≤ cs.length) (.put b (.var (cs.take off ++ new ++ cs.drop (off + n)) false) (.ret .top))
      | .row _ _ _ _ => fzs new fun new' => .get b fun
        | .row e size cs p => .dec (new'.length = n ∧ off + n ≤ cs.length ∧ p ≤ off) (.put b (.row e size (cs.take off ++ new' ++ cs.drop (off + n)) p) (.ret .top))
        | _ => .fail
      | .nest e e2 s2 cs hole => match ρ x with
        | .osl b2 n2 => .get b2 fun
          | .row e' s' ls 0 => if e' = e2 ∧ s' = s2 then .dec (n = 1 ∧ n2 * s2 = ls.length ∧ 0 < s2 ∧ off < cs.length ∧ b2 ≠ b) (.exi (List Nat) (fun h => ∀ i, i ∉ h → i = off ∨ i ∉ hole) fun h => .put b2 .dead (.put b (.nest e e2 s2 (cs.set off (.sl ls n2)) h) (.ret .top))) else .fail
          | _ => .fail
        | _ => .fail
      | _ => .fail
    | _, _, _ => .fail
  | .nilCheck x => match ρ x with
    | .box b off => .ret (.box b off)
    | .fptr cs => .ret (.fptr cs)
    | .fn g caps => .ret (.fn g caps)
    | _ => .fail
  | .binOp op t x y _ => match ρ x, ρ y with
    | .v (.int k a), .v (.int j b) => if k = j ∨ shiftB op = true then intBin op k a b else .fail
    | .osl _ (_ + 1), .v (.slice none 0 0) => match op, P.underlying t with
      | .eql, some (.slice _) => .retF (.v (.bool false))
      | .neq, some (.slice _) => .retF (.v (.bool true))
      | _, _ => .fail
    | .sl (_ :: _) _, .v (.slice none 0 0) => match op, P.underlying t with
      | .eql, some (.slice _) => .retF (.v (.bool false))
      | .neq, some (.slice _) => .retF (.v (.bool true))
      | _, _ => .fail
    | .v (.slice none 0 0), .v (.slice none 0 0) => match op, P.underlying t with
      | .eql, some (.slice _) => .retF (.v (.bool true))
      | .neq, some (.slice _) => .retF (.v (.bool false))
      | _, _ => .fail
    | .v (.slice none _ _), .v (.slice none 0 0) => match op, P.underlying t with
      | .eql, some (.slice _) => .retF (.v (.bool true))
      | .neq, some (.slice _) => .retF (.v (.bool false))
      | _, _ => .fail
    | .v (.slice (some _) _ _), .v (.slice none 0 0) => match op, P.underlying t with
      | .eql, some (.slice _) => .retF (.v (.bool false))
      | .neq, some (.slice _) => .retF (.v (.bool true))
      | _, _ => .fail
    | .v (.bool a), .v (.bool b) => match op, P.underlying t with
      | .eql, some .bool => .retF (.v (.bool (a == b)))
      | .neq, some .bool => .retF (.v (.bool (!(a == b))))
      | _, _ => .fail
    | .agg cs, .agg ds => match flatOf P 9 t, P.eqGuardType P.depth t, aggOf P t with
      | some ks, false, some true => match eqCells ks cs ds with
        | some r => match op with
          | .eql => .retF (.v (.bool r))
          | .neq => .retF (.v (.bool (!r)))
          | _ => .fail
        | none => .fail
      | _, _, _ => .fail
    | _, _ => .fail
  | .unOp op _ x => match op, ρ x with
    | .not, .v (.bool b) => .ret (.v (.bool (!b)))
    | .neg, .v (.int k n) => .ret (.v (.int k (k.wrap (0 - n))))
    | _, _ => .fail
  | .convert src dst x => match (P.underlying src).isSome, intOf? P dst, ρ x with
    | true, some k, .v (.int _ n) => .ret (.v (.int k (k.wrap n)))
    | _, _, _ => .fail
  | .makeFunc fn first caps => match fn, first.toList with
    | .func g, [] => match (caps.toList.map ρ).all notFn with
      | true => .ret (.fn g (caps.toList.map ρ))
      | false => .fail
    | _, _ => .fail
  | .slice t x lo hi mx => match elemOf? P t, mx with
    | some e, none => match szOf P e with
      | some size =>
        fz 4 (ρ x) fun
          | .sl cs n => match boundI ρ lo 0, boundI ρ hi n with
            | some i, some j => .dec (0 ≤ i ∧ i ≤ j ∧ j ≤ n ∧ n * size = cs.length) (.ret (.sl ((cs.drop (i.toNat * size)).take ((j.toNat - i.toNat) * size)) (j.toNat - i.toNat)))
            | _, _ => .fail
          | _ => .fail
      | none => .fail
    | _, _ => .fail
  | .fieldAddr s x f => match ρ x, fieldAt? P s f with
    | .box b off, some (o, t) => match szOf P t with
      | some (n + 1) => .ret (.box b (off + o))
      | _ => .fail
    | .fptr cs, some (o, t) => match szOf P t with
      | some (n + 1) => .ret (.fptr (cs.drop o))
      | _ => .fail
    | _, _ => .fail
  | .field s x f => match ρ x, fieldAt? P s f with
    | .agg cs, some (o, t) => takeR P t cs o .retF
    | _, _ => .fail
  | .indexAddr t x i => match ρ x, ρ i with
    | .sl cs n, .v (.int _ j) => match elemOf? P t with
      | some e => match szOf P e with
        | some size => .dec (0 ≤ j ∧ j < n ∧ n * size = cs.length ∧ 0 < size) (.ret (.fptr (cs.drop (j.toNat * size))))
        | none => .fail
      | none => .fail
    | .osl b n, .v (.int _ j) => match elemOf? P t with
      | some e => match szOf P e with
        | some size => .dec (0 ≤ j ∧ j < n ∧ 0 < size) (.ret (.box b (j.toNat * size)))
        | none => .fail
      | none => .fail
    | .box b off, .v (.int _ j) => match arrOf? P t with
      | some (n, e) => match szOf P e with
        | some size => .dec (0 ≤ j ∧ j < n) (.ret (.box b (off + j.toNat * size)))
        | none => .fail
      | none => .fail
    | _, _ => .fail
  | .index t x i => match ρ x, ρ i, arrOf? P t with
    | .agg cs, .v (.int _ j), some (n, e) => match szOf P e with
      | some size => .dec (0 ≤ j ∧ j < n) (takeR P e cs (j.toNat * size) .retF)
      | none => .fail
    | _, _, _ => .fail
  | .extract x i => match ρ x with
    | .tup vs => match vs[i]? with
      | some c => .retF c
      | none => .fail
    | _ => .fail
  | .makeSlice t n c => match ρ n, ρ c, elemOf? P t with
    | .v (.int .i64 i), .v (.int .i64 j), some e => match szOf P e, bytesOf P e, zeroOf P e with
      | some size, some bytes, some z => .dec (0 ≤ i ∧ i = j ∧ i * bytes ≤ 281474976710656 ∧ 0 < size ∧ i ≤ maxLen)
          (match nestOf P e with
          | some (e2, s2) => .put id (.nest e e2 s2 (List.replicate i.toNat (.sl [] 0)) []) (.ret (.osl id i.toNat))
          | none => .put id (.row e size (List.replicate i.toNat z).flatten 0) (.ret (.osl id i.toNat)))
      | _, _, _ => .fail
    | _, _, _ => .fail
  | .call { callee := .builtin b, args, argTypes } => match b, args.toList with
    | .len, [x] => match argTypes.toList with
      | [t] => lenR P t (ρ x)
      | _ => .fail
    | .min, l => minmaxR false (l.map ρ)
    | .max, l => minmaxR true (l.map ρ)
    | .append, [s, x] => match argTypes.toList with
      | [t, u] => appendR P id t u (ρ s) (ρ x)
      | _ => .fail
    | .copy, [s, x] => match argTypes.toList with
      | [t, _] => copyR P t (ρ s) (ρ x)
      | _ => .fail
    | _, _ => .fail
  | .call { callee := .value f, args, .. } => match ρ f with
    | .fn g caps => match C g with
      | some c => match c.eff, c.frs with
        | none, .keep => fzs (args.toList.map ρ ++ caps) fun avs => .exi c.α (fun x => LeVs avs (c.enc x) ∧ c.ok x) fun x => .retF (c.res x)
        | none, .lend => mapRM bz (args.toList.map ρ ++ caps) fun avs => .exi c.α (fun x => LeVs avs (c.enc x) ∧ c.ok x) fun x => .retF (c.res x)
        | none, .fresh e size => fzs (args.toList.map ρ ++ caps) fun avs => .exi c.α (fun x => LeVs avs (c.enc x) ∧ c.ok x) fun x => freshR id e size (c.res x)
        | none, .lendF e size => mapRM bz (args.toList.map ρ ++ caps) fun avs => .exi c.α (fun x => LeVs avs (c.enc x) ∧ c.ok x) fun x => freshR id e size (c.res x)
        | none, .freshA i e size => fzs (args.toList.map ρ ++ caps) fun avs => .exi c.α (fun x => LeVs avs (c.enc x) ∧ c.ok x) fun x => freshRA id i e size (c.res x)
        | some e, _ => ownR e.own (args.toList.map ρ ++ caps) fun avs => .exi (c.α × List Nat) (fun y => (c.enc y.1).mapM (renV (idx y.2)) = some avs ∧ decide y.2.Nodup = true ∧ c.ok y.1) fun y =>
            getsR (idx y.2) y.2 (e.pre y.1) (putsR (idx y.2) y.2 (e.post y.1) (.retF (c.res y.1)))
      | none => .fail
    | _ => .fail
  | _ => .fail

def ev (tm : List (Nat × V)) : Operand → V
  | .tmp t => (look tm t).getD .top
  | .const x => .v x
  | .func f => .fn f []
  | .global _ => .top

def putT (tm : List (Nat × V)) (d : Option Nat) (v : V) : List (Nat × V) := match d with
  | some i => (i, v) :: tm
  | none => tm

def okDst (sz : Nat) (d : Option Nat) : Bool := match d with
  | some i => decide (i < sz)
  | none => true

abbrev TM := List (Nat × V)
abbrev ST := List (Nat × Bx)

/-- What a slot holds whose operation was passed over. -/
abbrev vU : V := .v undef

/-- The operations of a region, in the order of the text. all: the region; id: the first number for new boxes. -/
def evOps (C : FuncId → Option Con) (sz : Nat) (all : List Oper) : List Oper → Nat → TM → ST → (TM → ST → Prop) → Prop
  | [], _, tm, st, K => K tm st
  | o :: os, id, tm, st, K => match okDst sz o.dst with
    | false => False
    | true => match o.guard with
      | none => (opR P C id (ev tm) o.op).go st fun v st' => evOps C sz all os (id + 1) (putT tm o.dst v) st' K
      | some (j, want) => match (all[j]?).bind (·.dst) with
        | none => False
        | some d => match (look tm d).getD .top with
          | .v (.bool b) => match want with
            | true => br b ((opR P C id (ev tm) o.op).go st fun v st' => evOps C sz all os (id + 1) (putT tm o.dst v) st' K) (evOps C sz all os (id + 1) (putT tm o.dst vU) st K)
            | false => br b (evOps C sz all os (id + 1) (putT tm o.dst vU) st K) ((opR P C id (ev tm) o.op).go st fun v st' => evOps C sz all os (id + 1) (putT tm o.dst v) st' K)
          | .v (.tuple _) => evOps C sz all os (id + 1) (putT tm o.dst vU) st K
          | _ => False

/-- Where the work is done, it is done with some reads and writes. -/
def RM.goT : RM → ST → List Nat → List Nat → (V → ST → List Nat → List Nat → Prop) → Prop
  | .fail, _, _, _, _ => False
  | .ret v, st, rs, ws, K => K v st rs ws
  | .req p k, st, rs, ws, K => p ∧ k.goT st rs ws K
  | @RM.dec p k _, st, rs, ws, K => p ∧ k.goT st rs ws K
  | .exi _ p k, st, rs, ws, K => ∃ x, p x ∧ (k x).goT st rs ws K
  | .get b k, st, rs, ws, K => match look st b with
    | some x => (k x).goT st (b :: rs) ws K
    | none => False
  | .put b x k, st, rs, ws, K => k.goT ((b, x) :: st) rs (b :: ws) K


/-- Has a step nothing in common with those before it that it is not ordered behind? -/
def indepB (ops : Array Oper) (o : Oper) (rs ws : List Nat) (prev : List (Nat × Oper × List Nat × List Nat)) : Bool :=
  prev.all fun (j, oj, rj, wj) => (o.after.any fun e => Region.binds .any e && e.on == j) ||
    (oj.apart ops o && (wj.all fun b => !rs.contains b && !ws.contains b) && ws.all fun b => !rj.contains b)

/-- The operations of a region whose order is open, in the order of the text. -/
def evOpsD (C : FuncId → Option Con) (sz : Nat) (ops : Array Oper) (nx : Nat) : List Oper → Nat → TM → ST → List (Nat × Oper × List Nat × List Nat) → (TM → ST → Prop) → Prop
  | [], _, tm, st, _, K => K tm st
  | o :: os, i, tm, st, prev, K => match okDst sz o.dst with
    | false => False
    | true => match o.guard with
      | none => (opR P C (nx + i) (ev tm) o.op).goT st [] [] fun v st' rs ws => match indepB ops o rs ws prev with
        | false => False
        | true => evOpsD C sz ops nx os (i + 1) (putT tm o.dst v) st' ((i, o, rs, ws) :: prev) K
      | some (j, want) => match (ops.toList[j]?).bind (·.dst) with
        | none => False
        | some d => match (look tm d).getD .top with
          | .v (.bool b) => match want with
            | true => br b ((opR P C (nx + i) (ev tm) o.op).goT st [] [] fun v st' rs ws => match indepB ops o rs ws prev with
                | false => False
                | true => evOpsD C sz ops nx os (i + 1) (putT tm o.dst v) st' ((i, o, rs, ws) :: prev) K)
              (match indepB ops o [] [] prev with
                | false => False
                | true => evOpsD C sz ops nx os (i + 1) (putT tm o.dst vU) st ((i, o, [], []) :: prev) K)
            | false => br b (match indepB ops o [] [] prev with
                | false => False
                | true => evOpsD C sz ops nx os (i + 1) (putT tm o.dst vU) st ((i, o, [], []) :: prev) K)
              ((opR P C (nx + i) (ev tm) o.op).goT st [] [] fun v st' rs ws => match indepB ops o rs ws prev with
                | false => False
                | true => evOpsD C sz ops nx os (i + 1) (putT tm o.dst v) st' ((i, o, rs, ws) :: prev) K)
          | .v (.tuple _) => match indepB ops o [] [] prev with
            | false => False
            | true => evOpsD C sz ops nx os (i + 1) (putT tm o.dst vU) st ((i, o, [], []) :: prev) K
          | _ => False

def enumL : Nat → List Oper → List (Nat × Oper)
  | _, [] => []
  | i, o :: os => (i, o) :: enumL (i + 1) os

/-- Does no operation wait for a later one? -/
def aheadB (ops : List Oper) : Bool := (enumL 0 ops).all fun (i, o) => o.after.all fun e => !Region.binds .any e || decide (e.on < i)

inductive AX where
  | normal | exit (id : Nat) | ret

/-- A list of the call's own without elements, for nil. -/
def nilB : V → V → Bool
  | .osl _ 0, .v (.slice none 0 0) => true
  | _, _ => false
/-- A row that is not there yet. -/
def virtB : Bx → Bool
  | .row _ _ [] 0 => true
  | .nest _ _ _ [] [] => true
  | _ => false
def SubT (r : List (Nat × Nat)) : TM → TM → Prop
  | [], _ => True
  | (i, v) :: l, tm => (renV r v = some ((look tm i).getD .top) ∨ nilB v ((look tm i).getD .top) = true) ∧ SubT r l tm
def SubC (r : List (Nat × Nat)) : List V → List V → Prop
  | [], [] => True
  | v :: l, d :: k => (renV r v = some d ∨ nilB v d = true) ∧ SubC r l k
  | _, _ => False
def SubS (r : List (Nat × Nat)) : ST → ST → Prop
  | [], _ => True
  | (b, x) :: l, st => ((∃ b' y, look r b = some b' ∧ renX r x = some y ∧ look st b' = some y) ∨ (decide (look r b = none) && virtB x) = true ∨ (∃ b' cs' cs f, x = .var cs' f ∧ look r b = some b' ∧ look st b' = some (.var cs f) ∧ SubC r cs' cs)) ∧ SubS r l st

/-- The state (tm', st', nx') says no more than (tm, st), its boxes renamed. -/
def Sub (pins : Nat) (r : List (Nat × Nat)) (tm' : TM) (st' : ST) (nx' : Nat) (tm : TM) (st : ST) : Prop :=
  SubT r tm' tm ∧ SubS r st' st ∧ ((r.all (fun p => decide (p.1 < nx'))) && st'.all (fun p => decide (p.1 < nx'))) = true ∧ (decide (r.map (·.2)).Nodup && (List.range pins).all fun i => decide (look r i = some i)) = true

/-- A state at the head of a loop. -/
structure LS where
  tm : TM
  st : ST
  nx : Nat

def awp (C : FuncId → Option Con) (sz pins : Nat) : Code → (AX → TM → ST → Nat → Prop) → TM → ST → Nat → Prop
  | .skip, Q, tm, st, nx => Q .normal tm st nx
  | .region _ ops false, Q, tm, st, nx => evOps P C sz ops.toList ops.toList nx tm st fun tm' st' => Q .normal tm' st' (nx + ops.size)
  | .region _ ops true, Q, tm, st, nx => match aheadB ops.toList with
    | true => evOpsD P C sz ops nx ops.toList 0 tm st [] fun tm' st' => Q .normal tm' st' (nx + ops.size)
    | false => False
  | .seq a b, Q, tm, st, nx => awp C sz pins a (fun e tm' st' nx' => match e with
    | .normal => awp C sz pins b Q tm' st' nx'
    | e => Q e tm' st' nx') tm st nx
  | .cond c x y, Q, tm, st, nx => match ev tm c with
    | .v (.bool b) => br b (awp C sz pins x Q tm st nx) (awp C sz pins y Q tm st nx)
    | _ => False
  | .block id c, Q, tm, st, nx => awp C sz pins c (fun e tm' st' nx' => match e with
    | .exit j => match decide (j = id) with
      | true => Q .normal tm' st' nx'
      | false => Q (.exit j) tm' st' nx'
    | e => Q e tm' st' nx') tm st nx
  | .loop c, Q, tm, st, nx => ∃ (α : Type) (mk : α → LS) (μ : α → Nat), (∃ x r, Sub pins r (mk x).tm (mk x).st (mk x).nx tm st) ∧ ∀ x, awp C sz pins c (fun e tm' st' nx' => match e with
    | .normal => ∃ y r, Sub pins r (mk y).tm (mk y).st (mk y).nx tm' st' ∧ μ y < μ x
    | e => Q e tm' st' nx') (mk x).tm (mk x).st (mk x).nx
  | .exit id, Q, tm, st, nx => Q (.exit id) tm st nx
  | .ret, Q, tm, st, nx => Q .ret tm st nx
  | _, _, _, _, _ => False

/-- The result of a function, made clean. -/
def resR (tm : TM) : List ResultVar → List V → RM
  | [], acc => match acc with
    | [c] => fz 4 c .ret
    | cs => fzs cs fun cs' => .ret (.tup cs')
  | .tmp t :: l, acc => resR tm l (acc ++ [(look tm t).getD .top])
  | .cell a t :: l, acc => (loadR P t (ev tm (.tmp a))).bind fun v => resR tm l (acc ++ [v])
end
end
end Go.Ev
/- A run of the model follows the evaluator: what the steps keep. -/
set_option linter.unusedVariables false
set_option linter.unusedSimpArgs false
namespace Go.Ev
open Go.RowKit

theorem cell?_at {w : World} {g i : Nat} {v : Value} (h : (cellsAt w.heap g)[i]? = some v) : w.cell? ⟨g, i, none⟩ = some v := by
  unfold cellsAt at h
  unfold World.cell?
  split at h <;> simp_all


theorem RVs.mono {m m' : MP} {F F' : FZ} {H H' : Array Obj} (hm : ∀ b y, m b = some y → m' b = some y) (hF : ∀ g j, F g j → F' g j) (hk : Keeps F H H') {cs : List V} {xs : List Value}
    (h : RVs m F H cs xs) : RVs m' F' H' cs xs := ⟨h.1, fun i c x hc hx => ⟨(h.2 i c x hc hx).1.mono hm hF hk, (h.2 i c x hc hx).2⟩⟩

theorem Keeps.refl (F : FZ) (H : Array Obj) : Keeps F H H := fun _ _ _ => rfl

theorem RBx.mono {O : Nat → Prop} {m m' : MP} {F F' : FZ} {H H' : Array Obj} {b : Nat} (hm : ∀ b y, m b = some y → m' b = some y) (hF : ∀ g j, F g j → F' g j) (hk : Keeps F H H') {x : Bx}
    (h : RBx O m F H b x) (hb : ∀ g c, m b = some (g, c) → H'[g]? = H[g]? ∧ ∀ j, F' g j → F g j) (hn : m b = none → m' b = none) : RBx O m' F' H' b x := by
  cases x with
  | var cs f =>
    obtain ⟨g, c, arr, ty, h1, h2, h3, h4, h5, h6⟩ := h
    exact ⟨g, c, arr, ty, hm _ _ h1, h2, by rw [(hb _ _ h1).1]; exact h3, h4.mono hm hF hk, fun j hj => h5 j ((hb _ _ h1).2 j hj), fun hf j hj => hF _ _ (h6 hf j hj)⟩
  | row e size cs p =>
    rcases h with ⟨g, cap, cur, h1, h2, h3, h4, h5, h6, h7, h8, h9, h10⟩ | ⟨h1, h2, h3⟩
    rotate_left
    · exact .inr ⟨hn h1, h2, h3⟩
    exact .inl ⟨g, cap, cur, hm _ _ h1, h2, by rw [(hb _ _ h1).1]; exact h3, h4, h5, h6, RCs.mono hF hk _ _ h7, fun j hj => h8 j ((hb _ _ h1).2 j hj), fun j hj => hF _ _ (h9 j hj), h10⟩
  | loop r =>
    obtain ⟨g, c, l, h1, h2, h3, h4, h5, h6, h7, h8, h9, h10, h11⟩ := h
    exact ⟨g, c, l, hm _ _ h1, h2, by rw [(hb _ _ h1).1]; exact h3, fun j hj => h4 j ((hb _ _ h1).2 j hj), h5, h6, h7, h8, h9, h10, fun i => (h11 i).mono hm hF hk⟩
  | mark p =>
    obtain ⟨g, c, h1, h2, h3, h4⟩ := h
    exact ⟨g, c, hm _ _ h1, h2, by rw [(hb _ _ h1).1]; exact h3, fun j hj => h4 j ((hb _ _ h1).2 j hj)⟩
  | dead => trivial
  | nest e e2 s2 cs hole =>
    rcases h with ⟨g, cap, cur, h1, h2, h3, h4, h5, h6, h7⟩ | ⟨h1, h2, h3⟩
    · exact .inl ⟨g, cap, cur, hm _ _ h1, h2, by rw [(hb _ _ h1).1]; exact h3, h4, h5, h6, fun j hj => h7 j ((hb _ _ h1).2 j hj)⟩
    · exact .inr ⟨hn h1, h2, h3⟩

def isNest : Bx → Bool
  | .nest _ _ _ _ _ => true
  | _ => false

theorem NX_of_not {L : Nat → Nat → Nat → Prop} {m : MP} {F : FZ} {H : Array Obj} {b : Nat} {x : Bx} (h : isNest x = false) : NX L m F H b x := by
  cases x <;> first | trivial | (simp [isNest] at h)

theorem NIn.mono {F F' : FZ} {H H' : Array Obj} {L L' : Nat → Nat → Nat → Prop} {b i : Nat} {e2 : TypeId} {s2 : Nat} {x : Value} {c : V} (h : NIn F H L b i e2 s2 x c) (hF : ∀ g j, F g j → F' g j) (hk : Keeps F H H')
    (hH : ∀ g n cap, x = .slice (some ⟨g, 0, none⟩) n cap → L g b i → L' g b i ∧ H'[g]? = H[g]?) : NIn F' H' L' b i e2 s2 x c := by
  obtain ⟨ls, n, rfl, h1, h2, h3⟩ := h
  refine ⟨ls, n, rfl, h1, h2, h3.imp id ?_⟩
  rintro ⟨g, cap, cur, rfl, q1, q2, q3, q4, q5, q6⟩
  obtain ⟨e1, e2⟩ := hH g n cap rfl q1
  exact ⟨g, cap, cur, rfl, e1, q2, q3, by rw [e2]; exact q4, q5, RCs.mono hF hk _ _ q6⟩

theorem NOK.nil {O : Nat → Prop} {F : FZ} {m : MP} {H : Array Obj} : NOK O F m [] H (fun _ _ _ => False) :=
  ⟨fun _ _ _ h => h.elim, fun _ _ _ _ _ h => h.elim, fun _ _ _ _ _ _ _ h => h, fun b x h => by simp at h⟩

theorem nok_none {O : Nat → Prop} {F : FZ} {m : MP} {st : List (Nat × Bx)} {H : Array Obj} (h : ∀ b x, look st b = some x → isNest x = false) : ∃ L, NOK O F m st H L :=
  ⟨fun _ _ _ => False, fun _ _ _ h => h.elim, fun _ _ _ _ _ h => h.elim, fun _ _ _ _ _ _ _ h => h, fun b x hx => NX_of_not (h b x hx)⟩

/-- A later state with the same lists of lists. -/
theorem NOK.mono {O : Nat → Prop} {F F' : FZ} {m m' : MP} {st st' : List (Nat × Bx)} {H H' : Array Obj} {L : Nat → Nat → Nat → Prop} (h : NOK O F m st H L) (hF : ∀ g j, F g j → F' g j) (hk : Keeps F H H') (hsz : H.size ≤ H'.size)
    (hL : ∀ g b i, L g b i → H'[g]? = H[g]? ∧ ∀ j, F' g j → F g j)
    (hal : ∀ b g c, aliveB st' b → m' b = some (g, c) → ∀ b' i, ¬ L g b' i)
    (hn : ∀ b x, look st' b = some x → isNest x = false ∨ NX L m' F' H' b x ∨ (look st b = some x ∧ ∀ g c, m' b = some (g, c) → m b = some (g, c) ∧ H'[g]? = H[g]?)) : NOK O F' m' st' H' L := by
  refine ⟨fun g b i hg => ?_, h.un, hal, fun b x hx => ?_⟩
  · obtain ⟨h1, h2, h3⟩ := h.lo g b i hg
    exact ⟨h1, by omega, fun j hj => h3 j ((hL g b i hg).2 j hj)⟩
  · rcases hn b x hx with h1 | h1 | ⟨h1, h2⟩
    · exact NX_of_not h1
    · exact h1
    · have := h.nx b x h1
      cases x with
      | nest e e2 s2 cs hole =>
        intro g cap hm i c hc hh
        obtain ⟨e1, e3⟩ := h2 g cap hm
        obtain ⟨y, hy, hN⟩ := this g cap e1 i c hc hh
        refine ⟨y, ?_, hN.mono hF hk fun g' _ _ _ hl => ⟨hl, (hL g' b i hl).1⟩⟩
        rw [show cellsAt H' g = cellsAt H g by simp [cellsAt, e3]]
        exact hy
      | _ => trivial

section
variable {O : Nat → Prop} {w0 : World} {F0 : FZ} {M0 : MP} {D : List Deferred} {U : Nat → Prop} {F : FZ} {m : MP} {sz : Nat} {tm : TM} {st : ST} {a : Act} {w : World}

/-- A slot is written. -/
theorem Rel.put (h : Rel O w0 F0 M0 D U F m sz tm st a w) {d : Option Nat} (hd : okDst sz d = true) {c : V} {x : Value} (hx : RV m F w.heap c x) :
    Rel O w0 F0 M0 D U F m sz (putT tm d c) st (a.put d x) w := by
  cases d with
  | none => exact h
  | some i =>
    have hi : i < a.tmps.size := by have := h.hsz; simp [okDst] at hd; omega
    refine { h with htm := fun j => ?_, hsz := by simp [Act.put, h.hsz], hde := h.hde }
    simp only [putT, look_cons, Act.put]
    by_cases hij : i = j
    · subst hij
      simp only [if_true, Option.getD_some]
      simpa [Array.getD, hi] using hx
    · simp only [if_neg hij]
      have := h.htm j
      simpa [Array.getD_eq_getD_getElem?, Array.getElem?_setIfInBounds, hij] using this

/-- Fewer numbers are known to be new. -/
theorem Rel.weakU (h : Rel O w0 F0 M0 D U F m sz tm st a w) {U' : Nat → Prop} (hU : ∀ b, U' b → U b) : Rel O w0 F0 M0 D U' F m sz tm st a w :=
  { h with fresh := fun b hb => h.fresh b (hU b hb) }

/-- A draw. -/
theorem Rel.drew (h : Rel O w0 F0 M0 D U F m sz tm st a w) : Rel O w0 F0 M0 D U F m sz tm st a w.drew :=
  { h with below := h.below.drew }

/-- A box is written as it is. -/
theorem Rel.same (h : Rel O w0 F0 M0 D U F m sz tm st a w) {b : Nat} {x : Bx} (hl : look st b = some x) : Rel O w0 F0 M0 D U F m sz tm ((b, x) :: st) a w := by
  have e : ∀ j, look ((b, x) :: st) j = look st j := by
    intro j
    rw [look_cons]
    split
    · next e => rw [← e, hl]
    · rfl
  refine { h with hst := fun b' y hy => h.hst b' y (by rw [← e]; exact hy), inj := fun b1 b2 g c1 c2 a1 a2 => h.inj b1 b2 g c1 c2 ?_ ?_, fresh := fun b' hb' => ⟨by rw [e]; exact (h.fresh b' hb').1, (h.fresh b' hb').2⟩, nst := h.nst.imp fun L hL => ⟨hL.lo, hL.un, fun b g c ha => hL.al b g c ?_, fun b x hx => hL.nx b x (by rw [← e]; exact hx)⟩ }
  · obtain ⟨y, hy, h0⟩ := a1; exact ⟨y, by rw [← e]; exact hy, h0⟩
  · obtain ⟨y, hy, h0⟩ := a2; exact ⟨y, by rw [← e]; exact hy, h0⟩
  · obtain ⟨y, hy, h0⟩ := ha; exact ⟨y, by rw [← e]; exact hy, h0⟩

/-- Some cells of a box are frozen. -/
theorem Rel.freeze (h : Rel O w0 F0 M0 D U F m sz tm st a w) {b g c n : Nat} {x0 x1 : Bx} (hl : look st b = some x0) (h0 : x0 ≠ .dead) (h1 : x1 ≠ .dead) (hm : m b = some (g, c)) (hg : O g)
    (hx : RBx O m (fun k j => F k j ∨ (k = g ∧ j < n)) w.heap b x1) (hnn : isNest x1 = false := by rfl) : Rel O w0 F0 M0 D U (fun k j => F k j ∨ (k = g ∧ j < n)) m sz tm ((b, x1) :: st) a w := by
  have hal : ∀ b', aliveB ((b, x1) :: st) b' → aliveB st b' := by
    rintro b' ⟨y, hy, hy0⟩
    rw [look_cons] at hy
    split at hy
    · next e => subst e; exact ⟨x0, hl, h0⟩
    · exact ⟨y, hy, hy0⟩
  refine { htm := fun i => (h.htm i).mono (fun _ _ e => e) (fun _ _ => .inl) (Keeps.refl _ _), hsz := h.hsz, hde := h.hde, hst := ?_, inj := ?_, fresh := ?_, pin := h.pin, keep := h.keep, f0 := fun _ _ e => .inl (h.f0 _ _ e), f1 := ?_, f2 := ?_, mlt := h.mlt, below := h.below, hb := h.hb, nst := ?_ }
  · intro b' y hy
    rw [look_cons] at hy
    split at hy
    · next e => subst e; cases hy; exact hx
    · next hne =>
      by_cases hd : y = .dead
      · subst hd; trivial
      refine (h.hst b' y hy).mono (fun _ _ e => e) (fun _ _ => .inl) (Keeps.refl _ _) (fun g' c' hm' => ⟨rfl, ?_⟩) id
      rintro j (hj | ⟨rfl, hj⟩)
      · exact hj
      · exact absurd (h.inj b b' g' c c' ⟨x0, hl, h0⟩ ⟨y, hy, hd⟩ hm hm') hne
  · exact fun b1 b2 g' c1 c2 a1 a2 => h.inj b1 b2 g' c1 c2 (hal _ a1) (hal _ a2)
  · intro b' hb'
    obtain ⟨e1, e2⟩ := h.fresh b' hb'
    refine ⟨?_, e2⟩
    rw [look_cons, if_neg (fun e => by subst e; rw [hl] at e1; cases e1)]
    exact e1
  · rintro k j (hj | ⟨rfl, hj⟩)
    · exact h.f1 _ _ hj
    · exact .inr hg
  · rintro k j (hj | ⟨rfl, hj⟩)
    · exact h.f2 _ _ hj
    · exact h.mlt _ _ _ hm
  · obtain ⟨L, hL⟩ := h.nst
    refine ⟨L, hL.mono (fun _ _ => .inl) (Keeps.refl _ _) (Nat.le_refl _) (fun g' b' i hgl => ⟨rfl, ?_⟩) (fun b' g' c' ha => hL.al b' g' c' (hal _ ha)) (fun b' y hy => ?_)⟩
    · rintro j (hj | ⟨rfl, hj⟩)
      · exact hj
      · exact absurd hgl (hL.al b g' c ⟨x0, hl, h0⟩ hm b' i)
    · rw [look_cons] at hy
      split at hy
      · cases hy; exact .inl hnn
      · exact .inr (.inr ⟨hy, fun g' c' e => ⟨e, rfl⟩⟩)

end

theorem RCs_drop {F : FZ} {H : Array Obj} {one : Bool} {cs : List V} {xs : List Value} (h : RCs F H one cs xs) (n : Nat) : RCs F H one (cs.drop n) (xs.drop n) := by
  rw [RCs_iff] at h ⊢
  refine ⟨by simp [h.1], fun i c x hc hx => ?_⟩
  rw [List.getElem?_drop] at hc hx
  exact h.2 _ c x hc hx

theorem RCs_take {F : FZ} {H : Array Obj} {one : Bool} {cs : List V} {xs : List Value} (h : RCs F H one cs xs) (n : Nat) : RCs F H one (cs.take n) (xs.take n) := by
  rw [RCs_iff] at h ⊢
  refine ⟨by simp [h.1], fun i c x hc hx => ?_⟩
  rw [List.getElem?_take] at hc hx
  by_cases hi : i < n
  · simp only [hi, if_true] at hc hx; exact h.2 _ c x hc hx
  · simp [hi] at hc

theorem RCs_append {F : FZ} {H : Array Obj} {one : Bool} {cs ds : List V} {xs ys : List Value} (h : RCs F H one cs xs) (k : RCs F H one ds ys) : RCs F H one (cs ++ ds) (xs ++ ys) := by
  rw [RCs_iff] at h k ⊢
  refine ⟨by simp [h.1, k.1], fun i c x hc hx => ?_⟩
  by_cases hi : i < cs.length
  · rw [List.getElem?_append_left hi] at hc
    rw [List.getElem?_append_left (by omega)] at hx
    exact h.2 _ c x hc hx
  · rw [List.getElem?_append_right (by omega)] at hc
    rw [List.getElem?_append_right (by omega), ← h.1] at hx
    exact k.2 _ c x hc hx

theorem RCs_one {F : FZ} {H : Array Obj} {cs : List V} {xs : List Value} (h : RCs F H false cs xs) (k : ∀ x ∈ xs, x.oneCell' = true) : RCs F H true cs xs := by
  rw [RCs_iff] at h ⊢
  exact ⟨h.1, fun i c x hc hx => ⟨(h.2 i c x hc hx).1, fun _ => k x (List.mem_of_getElem? hx)⟩⟩

theorem RCs_weak {F : FZ} {H : Array Obj} {one : Bool} {cs : List V} {xs : List Value} (h : RCs F H one cs xs) : RCs F H false cs xs := by
  rw [RCs_iff] at h ⊢
  exact ⟨h.1, fun i c x hc hx => ⟨(h.2 i c x hc hx).1, fun e => by cases e⟩⟩

theorem RV.of_RP {m : MP} {F : FZ} {H : Array Obj} {c : V} {x : Value} (h : RP m F H c x) : RV m F H c x := by
  cases c
  case fn g caps => exact RV.of_RC h
  case ag cs => simp [RP, RC] at h
  all_goals exact h

section
variable {O : Nat → Prop} {w0 : World} {F0 : FZ} {M0 : MP} {D : List Deferred} {U : Nat → Prop} {m : MP} {sz : Nat} {tm : TM} {a : Act} {w : World}

/-- What making clean gives: a later state, and a clean value. -/
def Cleans (O : Nat → Prop) (w0 : World) (F0 : FZ) (M0 : MP) (D : List Deferred) (U : Nat → Prop) (m : MP) (sz : Nat) (tm : TM) (a : Act) (w : World) (f : V → (V → RM) → RM) : Prop :=
  ∀ (c : V) (x : Value) (k : V → RM) (st : ST) (F : FZ) (K : V → ST → Prop), Rel O w0 F0 M0 D U F m sz tm st a w → RV m F w.heap c x → (f c k).go st K →
    ∃ F' st' c', Rel O w0 F0 M0 D U F' m sz tm st' a w ∧ (∀ g j, F g j → F' g j) ∧ RC F' w.heap c' x ∧ (k c').go st' K ∧ (∀ b, aliveB st b → aliveB st' b)

theorem alive_cons {st : ST} {b0 : Nat} {x : Bx} (hx : x ≠ .dead) (b : Nat) (h : aliveB st b) : aliveB ((b0, x) :: st) b := by
  obtain ⟨y, hy, hy0⟩ := h
  by_cases e : b0 = b
  · exact ⟨x, by rw [look_cons, if_pos e], hx⟩
  · exact ⟨y, by rw [look_cons, if_neg e]; exact hy, hy0⟩

theorem mapRM_sound {f : V → (V → RM) → RM} (hf : Cleans O w0 F0 M0 D U m sz tm a w f) : ∀ (cs : List V) (xs : List Value) (k : List V → RM) (st : ST) (F : FZ) (K : V → ST → Prop),
    Rel O w0 F0 M0 D U F m sz tm st a w → cs.length = xs.length → (∀ (i : Nat) (c : V) (x : Value), cs[i]? = some c → xs[i]? = some x → RV m F w.heap c x) → (mapRM f cs k).go st K →
    ∃ F' st' cs', Rel O w0 F0 M0 D U F' m sz tm st' a w ∧ (∀ g j, F g j → F' g j) ∧ RCs F' w.heap false cs' xs ∧ (k cs').go st' K ∧ (∀ b, aliveB st b → aliveB st' b)
  | [], [], k, st, F, K, h, _, _, hg => ⟨F, st, [], h, fun _ _ e => e, trivial, hg, fun _ e => e⟩
  | [], _ :: _, _, _, _, _, _, hl, _, _ => by simp at hl
  | _ :: _, [], _, _, _, _, _, hl, _, _ => by simp at hl
  | c :: cs, x :: xs, k, st, F, K, h, hl, hv, hg => by
    obtain ⟨F1, st1, c1, h1, e1, r1, g1, l1⟩ := hf c x _ st F K h (hv 0 c x rfl rfl) hg
    obtain ⟨F2, st2, cs2, h2, e2, r2, g2, l2⟩ := mapRM_sound hf cs xs _ st1 F1 K h1 (by simpa using hl)
      (fun i c' x' hc hx => (hv (i + 1) c' x' (by simpa using hc) (by simpa using hx)).mono (fun _ _ e => e) e1 (Keeps.refl _ _)) g1
    exact ⟨F2, st2, c1 :: cs2, h2, fun g j e => e2 _ _ (e1 _ _ e), ⟨⟨RC.mono e2 (Keeps.refl _ _) _ _ r1, fun e => by cases e⟩, r2⟩, g2, fun b e => l2 b (l1 b e)⟩

theorem cellsAt_of' {H : Array Obj} {g : Nat} {arr : Array Value} {ty : TypeId} {fr : Nat × Nat} (h : H[g]? = some (.cells arr ty fr)) : cellsAt H g = arr.toList := by
  simp [cellsAt, h]

theorem NIn.clean {F F' : FZ} {H : Array Obj} {L : Nat → Nat → Nat → Prop} {b i : Nat} {e2 : TypeId} {s2 : Nat} {x : Value} {c : V} (h : NIn F H L b i e2 s2 x c) (hF : ∀ g j, F g j → F' g j)
    (hL : ∀ g j, L g b i → F' g j) : RC F' H c x ∧ x.oneCell' = true := by
  obtain ⟨ls, n, rfl, h1, h2, h3⟩ := h
  rcases h3 with ⟨rfl, rfl⟩ | ⟨g, cap, cur, rfl, q1, q2, q3, q4, q5, q6⟩
  · have : ls = [] := List.eq_nil_of_length_eq_zero (by omega)
    subst this
    refine ⟨?_, rfl⟩
    unfold RC
    exact ⟨none, 0, rfl, Nat.le_refl _, Nat.zero_le _, .inl rfl⟩
  · refine ⟨?_, rfl⟩
    unfold RC
    refine ⟨_, cap, rfl, q2, q3, .inr ⟨g, 0, rfl, fun j _ => hL _ _ q1, ?_⟩⟩
    rw [cellsAt_of' q4, List.drop_zero]
    exact RCs.mono hF (Keeps.refl _ _) _ _ q6

/-- A list of lists becomes a row, all of it frozen. -/
theorem Rel.flat {O : Nat → Prop} {w0 : World} {F0 : FZ} {M0 : MP} {D : List Deferred} {U : Nat → Prop} {F : FZ} {m : MP} {sz : Nat} {tm : TM} {st : ST} {a : Act} {w : World} (h : Rel O w0 F0 M0 D U F m sz tm st a w)
    {b : Nat} {e e2 : TypeId} {s2 : Nat} {cs : List V} (hl : look st b = some (.nest e e2 s2 cs [])) :
    ∃ F', Rel O w0 F0 M0 D U F' m sz tm ((b, .row e 1 cs cs.length) :: st) a w ∧ (∀ g j, F g j → F' g j) ∧
      ∀ g cap, m b = some (g, cap) → cap ≤ maxLen ∧ (∀ j, j < cs.length → F' g j) ∧ RCs F' w.heap true cs ((cellsAt w.heap g).take cs.length) := by
  obtain ⟨L, hL⟩ := h.nst
  have hbx := h.hst b _ hl
  have hal : ∀ b', aliveB ((b, .row e 1 cs cs.length) :: st) b' → aliveB st b' := by
    rintro b' ⟨y, hy, hy0⟩
    rw [look_cons] at hy
    split at hy
    · next e => subst e; exact ⟨_, hl, by simp⟩
    · exact ⟨y, hy, hy0⟩
  have hab : aliveB st b := ⟨_, hl, by simp⟩
  let F' : FZ := fun k j => F k j ∨ ((∃ c, m b = some (k, c)) ∧ j < cs.length) ∨ ∃ i, L k b i
  have hF : ∀ g j, F g j → F' g j := fun _ _ => .inl
  have hclean : ∀ g cap, m b = some (g, cap) → cap ≤ maxLen ∧ (∀ j, j < cs.length → F' g j) ∧ RCs F' w.heap true cs ((cellsAt w.heap g).take cs.length) := by
    intro g cap hm
    obtain ⟨q1, cur, q2, q3, q4, q5, q6⟩ := hbx.nreal hm
    refine ⟨q3, fun j hj => .inr (.inl ⟨⟨cap, hm⟩, hj⟩), ?_⟩
    have hlen : (cellsAt w.heap g).length = cap := by rw [cellsAt_of' q2]; simpa using q4
    rw [RCs_iff]
    refine ⟨by rw [List.length_take, hlen]; omega, fun i c x hc hx => ?_⟩
    have hi : i < cs.length := (List.getElem?_eq_some_iff.1 hc).1
    rw [List.getElem?_take, if_pos hi] at hx
    obtain ⟨y, hy, hN⟩ := hL.nx b _ hl g cap hm i c hc (by simp)
    rw [hx] at hy; cases hy
    obtain ⟨r1, r2⟩ := hN.clean hF (fun g j hg => .inr (.inr ⟨i, hg⟩))
    exact ⟨r1, fun _ => r2⟩
  refine ⟨F', ?_, hF, hclean⟩
  refine { htm := fun i => (h.htm i).mono (fun _ _ e => e) hF (Keeps.refl _ _), hsz := h.hsz, hde := h.hde, hst := ?_, inj := fun b1 b2 g' c1 c2 a1 a2 => h.inj b1 b2 g' c1 c2 (hal _ a1) (hal _ a2), fresh := ?_, pin := h.pin, keep := h.keep, f0 := fun _ _ e => .inl (h.f0 _ _ e), f1 := ?_, f2 := ?_, mlt := h.mlt, below := h.below, hb := h.hb, nst := ?_ }
  · intro b' y hy
    rw [look_cons] at hy
    split at hy
    · next eb =>
      subst eb; cases hy
      cases hm : m b with
      | none =>
        rcases hbx with ⟨g, cap, cur, q1, _⟩ | ⟨_, q2, _⟩
        · rw [hm] at q1; cases q1
        · exact .inr ⟨hm, q2, by rw [q2]; rfl⟩
      | some y =>
        obtain ⟨g, cap⟩ := y
        obtain ⟨q1, cur, q2, q3, q4, q5, q6⟩ := hbx.nreal hm
        obtain ⟨r1, r2, r3⟩ := hclean g cap hm
        refine .inl ⟨g, cap, cur, hm, q1, q2, q3, by omega, Nat.one_pos, by rw [← cellsAt_of' q2]; exact r3, ?_, r2, Nat.le_refl _⟩
        rintro j (hj | ⟨_, hj⟩ | ⟨i, hj⟩)
        · exact absurd hj (q6 j)
        · exact hj
        · exact absurd hj (hL.al b g cap hab hm b i)
    · next hne =>
      by_cases hd : y = .dead
      · subst hd; trivial
      refine (h.hst b' y hy).mono (fun _ _ e => e) hF (Keeps.refl _ _) (fun g' c' hm' => ⟨rfl, ?_⟩) id
      rintro j (hj | ⟨⟨c, hm⟩, hj⟩ | ⟨i, hj⟩)
      · exact hj
      · exact absurd (h.inj b b' g' c c' hab ⟨y, hy, hd⟩ hm hm') hne
      · exact absurd hj (hL.al b' g' c' ⟨y, hy, hd⟩ hm' b i)
  · intro b' hb'
    obtain ⟨e1, e2⟩ := h.fresh b' hb'
    refine ⟨?_, e2⟩
    rw [look_cons, if_neg (fun e => by subst e; rw [hl] at e1; cases e1)]
    exact e1
  · rintro k j (hj | ⟨⟨c, hm⟩, hj⟩ | ⟨i, hj⟩)
    · exact h.f1 _ _ hj
    · exact .inr (hbx.nreal hm).1
    · exact .inr (hL.lo k b i hj).1
  · rintro k j (hj | ⟨⟨c, hm⟩, hj⟩ | ⟨i, hj⟩)
    · exact h.f2 _ _ hj
    · exact h.mlt _ _ _ hm
    · exact (hL.lo k b i hj).2.1
  · refine ⟨fun g b' i => L g b' i ∧ b' ≠ b, fun g b' i hg => ?_, fun g b1 i1 b2 i2 h1 h2 => hL.un g b1 i1 b2 i2 h1.1 h2.1, fun b' g c ha hm b2 i hg => hL.al b' g c (hal _ ha) hm b2 i hg.1, fun b' x hx => ?_⟩
    · obtain ⟨q1, q2, q3⟩ := hL.lo g b' i hg.1
      refine ⟨q1, q2, ?_⟩
      rintro j (hj | ⟨⟨c, hm⟩, hj⟩ | ⟨i', hj⟩)
      · exact q3 j hj
      · exact hL.al b g c hab hm b' i hg.1
      · exact hg.2 (hL.un g b' i b i' hg.1 hj).1
    · rw [look_cons] at hx
      split at hx
      · cases hx; exact NX_of_not rfl
      · next hne =>
        have := hL.nx b' x hx
        cases x with
        | nest _ _ _ cs' hole' =>
          intro g cap hm i c hc hh
          obtain ⟨y, hy, hN⟩ := this g cap hm i c hc hh
          exact ⟨y, hy, hN.mono hF (Keeps.refl _ _) fun g' n' c' _ hg => ⟨⟨hg, fun e => hne e.symm⟩, rfl⟩⟩
        | _ => trivial

theorem cellsAt_of {H : Array Obj} {g : Nat} {arr : Array Value} {ty : TypeId} {fr : Nat × Nat} (h : H[g]? = some (.cells arr ty fr)) : cellsAt H g = arr.toList := by
  simp [cellsAt, h]

theorem fz_sound : ∀ d, Cleans O w0 F0 M0 D U m sz tm a w (fz d)
  | 0 => fun c x k st F K h hr hg => by simp [fz, RM.go] at hg
  | d + 1 => by
    intro c x k st F K h hr hg
    have ih := fz_sound d
    cases c with
    | osl b n =>
      simp only [fz, RM.go] at hg
      cases hl : look st b with
      | none => simp [hl] at hg
      | some y =>
        rw [hl] at hg
        cases y with
        | row e size cs p =>
          simp only [RM.go] at hg
          obtain ⟨hn, hg⟩ := hg
          rcases hr with ⟨g', cap', hm', hnc, rfl⟩ | ⟨rfl, rfl⟩
          rotate_left
          · have hcs : cs = [] := by
              have : cs.length = 0 := by rw [← hn]; exact Nat.zero_mul _
              exact List.eq_nil_of_length_eq_zero this
            subst hcs
            have hp0 : p = 0 := by
              rcases h.hst b _ hl with ⟨_, _, _, _, _, _, _, _, _, _, _, _, h10⟩ | ⟨_, _, h10⟩
              · simpa using h10
              · exact h10
            subst hp0
            refine ⟨F, ((b, .row e size [] 0) :: st), .sl [] 0, h.same hl, fun _ _ e => e, ?_, hg, alive_cons (by simp)⟩
            unfold RC
            exact ⟨none, 0, rfl, Nat.le_refl _, Nat.zero_le _, .inl rfl⟩
          obtain ⟨g, cap, cur, h1, h2, h3, h4, h5, h6, h7, h8, h9, h10⟩ := RBx.real (h.hst b _ hl) hm'
          rw [h1] at hm'; cases hm'
          refine ⟨_, _, _, h.freeze (n := cs.length) hl (by simp) (by simp) h1 h2 ?_, fun _ _ => .inl, ?_, hg, alive_cons (by simp)⟩
          · refine .inl ⟨_, _, cur, h1, h2, h3, h4, h5, h6, RCs.mono (fun _ _ => .inl) (Keeps.refl _ _) _ _ h7, ?_, fun j hj => .inr ⟨rfl, hj⟩, Nat.le_refl _⟩
            rintro j (hj | ⟨_, hj⟩)
            · exact Nat.lt_of_lt_of_le (h8 j hj) h10
            · exact hj
          · refine ⟨_, _, rfl, hnc, h4, .inr ⟨_, 0, rfl, fun j hj => .inr ⟨rfl, by omega⟩, ?_⟩⟩
            rw [cellsAt_of h3, List.drop_zero]
            exact RCs.mono (fun _ _ => .inl) (Keeps.refl _ _) _ _ h7
        | var cs f => simp [RM.go] at hg
        | loop r => simp [RM.go] at hg
        | mark p => simp [RM.go] at hg
        | dead => simp [RM.go] at hg
        | nest e e2 s2 cs hole =>
          cases hole with
          | cons i l => simp [RM.go] at hg
          | nil =>
            simp only [RM.go] at hg
            obtain ⟨hn, hg⟩ := hg
            rw [Nat.mul_one] at hn
            subst hn
            obtain ⟨F', r1, e1, r2⟩ := h.flat hl
            refine ⟨F', _, .sl cs cs.length, r1, e1, ?_, hg, alive_cons (by simp)⟩
            rcases hr with ⟨g', cap', hm', hnc, rfl⟩ | ⟨hn0, rfl⟩
            · obtain ⟨q1, q2, q3⟩ := r2 g' cap' hm'
              unfold RC
              exact ⟨_, _, rfl, hnc, q1, .inr ⟨g', 0, rfl, fun j hj => by rw [Nat.zero_add]; exact q2 j hj, by rw [List.drop_zero]; exact q3⟩⟩
            · have hcs : cs = [] := List.eq_nil_of_length_eq_zero hn0
              subst hcs
              unfold RC
              exact ⟨none, 0, rfl, Nat.le_refl _, Nat.zero_le _, .inl rfl⟩
    | box b off =>
      simp only [fz, RM.go] at hg
      cases hl : look st b with
      | none => simp [hl] at hg
      | some y =>
        rw [hl] at hg
        obtain ⟨g', c', hm', rfl⟩ := hr
        cases y with
        | row e size cs p =>
          simp only [RM.go] at hg
          obtain ⟨g, cap, cur, h1, h2, h3, h4, h5, h6, h7, h8, h9, h10⟩ := RBx.real (h.hst b _ hl) hm'
          rw [h1] at hm'; cases hm'
          refine ⟨_, _, _, h.freeze (n := cs.length) hl (by simp) (by simp) h1 h2 ?_, fun _ _ => .inl, ?_, hg, alive_cons (by simp)⟩
          · refine .inl ⟨_, _, cur, h1, h2, h3, h4, h5, h6, RCs.mono (fun _ _ => .inl) (Keeps.refl _ _) _ _ h7, ?_, fun j hj => .inr ⟨rfl, hj⟩, Nat.le_refl _⟩
            rintro j (hj | ⟨_, hj⟩)
            · exact Nat.lt_of_lt_of_le (h8 j hj) h10
            · exact hj
          · refine ⟨_, off, rfl, fun j hj => .inr ⟨rfl, by simp at hj; omega⟩, ?_⟩
            rw [cellsAt_of h3]
            have := RCs_drop (RCs.mono (F' := fun k j => F k j ∨ (k = g' ∧ j < cs.length)) (fun _ _ => .inl) (Keeps.refl _ _) _ _ h7) off
            rw [List.drop_take] at this
            rw [List.length_drop]
            exact this
        | var cs f =>
          simp only at hg
          obtain ⟨g, c, arr, ty, h1, h2, h3, h4, h5, h6⟩ := h.hst b _ hl
          rw [h1] at hm'; cases hm'
          obtain ⟨F1, st1, cs1, r1, e1, r2, r3, l1⟩ := mapRM_sound ih cs arr.toList _ st F K h h4.1 (fun i c x hc hx => (h4.2 i c x hc hx).1) hg
          simp only [RM.go] at r3
          obtain ⟨y1, hy1, hy2⟩ := l1 b ⟨_, hl, by simp⟩
          have hone : ∀ x ∈ arr.toList, x.oneCell' = true := by
            intro x hx
            obtain ⟨i, hi⟩ := List.getElem?_of_mem hx
            have hi' : i < cs.length := by rw [h4.1]; exact (List.getElem?_eq_some_iff.1 hi).1
            exact (h4.2 i cs[i] x (by simp [hi']) hi).2
          have hc1 : RCs (fun k j => F1 k j ∨ (k = g' ∧ j < cs1.length)) w.heap true cs1 arr.toList := RCs.mono (fun _ _ => .inl) (Keeps.refl _ _) _ _ (RCs_one r2 hone)
          refine ⟨_, _, _, r1.freeze (n := cs1.length) hy1 hy2 (by simp) h1 h2 ?_, fun k j e => .inl (e1 k j e), ?_, r3, fun b' hb' => alive_cons (by simp) b' (l1 b' hb')⟩
          · refine ⟨_, _, arr, ty, h1, h2, h3, ⟨RCs_length hc1, fun i c x hc hx => ?_⟩, fun _ _ => rfl, fun _ j hj => .inr ⟨rfl, hj⟩⟩
            have := (RCs_iff.1 hc1).2 i c x hc hx
            exact ⟨RV.of_RC this.1, this.2 rfl⟩
          · refine ⟨_, off, rfl, fun j hj => .inr ⟨rfl, by simp at hj; omega⟩, ?_⟩
            rw [cellsAt_of h3]
            have := RCs_drop hc1 off
            have e : ((arr.toList.drop off).take (cs1.drop off).length) = arr.toList.drop off := by
              rw [List.take_of_length_le]
              rw [List.length_drop, List.length_drop, RCs_length hc1]
              exact Nat.le_refl _
            rw [e]
            exact this
        | loop r => simp [RM.go] at hg
        | mark p => simp [RM.go] at hg
        | dead => simp [RM.go] at hg
        | nest e e2 s2 cs hole => simp [RM.go] at hg
    | fn g caps =>
      obtain ⟨arr, rfl, hl, hv⟩ := hr
      obtain ⟨F1, st1, cs1, r1, e1, r2, r3, l1⟩ := mapRM_sound ih caps arr.toList _ st F K h hl (fun i c x hc hx => RV.of_RP (hv i c x hc hx)) hg
      exact ⟨F1, st1, .fn g cs1, r1, e1, ⟨arr, rfl, r2⟩, r3, l1⟩
    | ag cs =>
      obtain ⟨arr, rfl, hl, hv⟩ := hr
      obtain ⟨F1, st1, cs1, r1, e1, r2, r3, l1⟩ := mapRM_sound ih cs arr.toList _ st F K h hl (fun i c x hc hx => RV.of_RP (hv i c x hc hx).1) hg
      refine ⟨F1, st1, .agg cs1, r1, e1, ⟨arr, rfl, RCs_one r2 fun x hx => ?_⟩, r3, l1⟩
      obtain ⟨i, hi⟩ := List.getElem?_of_mem hx
      have hi' : i < cs.length := by rw [hl]; exact (List.getElem?_eq_some_iff.1 hi).1
      exact (hv i cs[i] x (by simp [hi']) hi).2
    | yld b => simp [fz, RM.go] at hg
    | top => exact ⟨F, st, .top, h, fun _ _ e => e, trivial, hg, fun _ e => e⟩
    | v y => exact ⟨F, st, _, h, fun _ _ e => e, hr, hg, fun _ e => e⟩
    | agg cs => exact ⟨F, st, _, h, fun _ _ e => e, hr, hg, fun _ e => e⟩
    | tup cs => exact ⟨F, st, _, h, fun _ _ e => e, hr, hg, fun _ e => e⟩
    | sl cs n => exact ⟨F, st, _, h, fun _ _ e => e, hr, hg, fun _ e => e⟩
    | fptr cs => exact ⟨F, st, _, h, fun _ _ e => e, hr, hg, fun _ e => e⟩

/-- What is handed over, and lent: nothing of the memory is written as long as the call goes on. -/
theorem bz_map : ∀ (cs : List V) (xs : List Value) (k : List V → RM) (st : ST) (F : FZ) (K : V → ST → Prop),
    Rel O w0 F0 M0 D U F m sz tm st a w → cs.length = xs.length → (∀ (i : Nat) (c : V) (x : Value), cs[i]? = some c → xs[i]? = some x → RV m F w.heap c x) → (mapRM bz cs k).go st K →
    ∃ F' st' cs', Rel O w0 F0 M0 D U F' m sz tm st' a w ∧ RCs (fun g _ => g < w.heap.size) w.heap false cs' xs ∧ (k cs').go st' K
  | [], [], k, st, F, K, h, _, _, hg => ⟨F, st, [], h, trivial, hg⟩
  | [], _ :: _, _, _, _, _, _, hl, _, _ => by simp at hl
  | _ :: _, [], _, _, _, _, _, hl, _, _ => by simp at hl
  | c :: cs, x :: xs, k, st, F, K, h, hl, hv, hg => by
    have h1 : ∃ F1 st1 c1, Rel O w0 F0 M0 D U F1 m sz tm st1 a w ∧ (∀ g j, F g j → F1 g j) ∧ RC (fun g _ => g < w.heap.size) w.heap c1 x ∧ (mapRM bz cs fun cs' => k (c1 :: cs')).go st1 K := by
      have hc := hv 0 c x rfl rfl
      have hother : ∀ (hz : (fz 4 c fun c' => mapRM bz cs fun cs' => k (c' :: cs')).go st K), ∃ F1 st1 c1, Rel O w0 F0 M0 D U F1 m sz tm st1 a w ∧ (∀ g j, F g j → F1 g j) ∧ RC (fun g _ => g < w.heap.size) w.heap c1 x ∧ (mapRM bz cs fun cs' => k (c1 :: cs')).go st1 K := by
        intro hz
        obtain ⟨F1, st1, c1, r1, e1, r2, r3, _⟩ := fz_sound 4 c x _ st F K h hc hz
        exact ⟨F1, st1, c1, r1, e1, RC.mono (fun g j e => r1.f2 g j e) (Keeps.refl _ _) _ _ r2, r3⟩
      cases c with
      | osl b n =>
        replace hg : (bz (.osl b n) fun c' => mapRM bz cs fun cs' => k (c' :: cs')).go st K := hg
        simp only [bz, RM.go] at hg
        cases hlk : look st b with
        | none => simp [hlk] at hg
        | some y =>
          rw [hlk] at hg
          cases y with
          | row e size cs1 p =>
            simp only [RM.go] at hg
            obtain ⟨hn, hg⟩ := hg
            refine ⟨F, st, .sl cs1 n, h, fun _ _ e => e, ?_, hg⟩
            rcases hc with ⟨g', cap', hm', hnc, rfl⟩ | ⟨rfl, rfl⟩
            · obtain ⟨g, cap, cur, h1, h2, h3, h4, h5, h6, h7, h8, h9, h10⟩ := RBx.real (h.hst b _ hlk) hm'
              rw [h1] at hm'; cases hm'
              refine ⟨_, _, rfl, hnc, h4, .inr ⟨_, 0, rfl, fun j hj => h.mlt _ _ _ h1, ?_⟩⟩
              rw [cellsAt_of h3, List.drop_zero]
              exact RCs.mono (fun g j e => h.f2 g j e) (Keeps.refl _ _) _ _ h7
            · have hcs : cs1 = [] := List.eq_nil_of_length_eq_zero (by rw [← hn]; exact Nat.zero_mul _)
              subst hcs
              unfold RC
              exact ⟨none, 0, rfl, Nat.le_refl _, Nat.zero_le _, .inl rfl⟩
          | var cs f => simp [RM.go] at hg
          | loop r => simp [RM.go] at hg
          | mark p => simp [RM.go] at hg
          | dead => simp [RM.go] at hg
          | nest e e2 s2 cs1 hole =>
            cases hole with
            | cons i l => simp [RM.go] at hg
            | nil =>
              simp only [RM.go] at hg
              obtain ⟨hn, hg⟩ := hg
              rw [Nat.mul_one] at hn
              subst hn
              refine ⟨F, st, .sl cs1 cs1.length, h, fun _ _ e => e, ?_, hg⟩
              rcases hc with ⟨g', cap', hm', hnc, rfl⟩ | ⟨hn0, rfl⟩
              · obtain ⟨L, hL⟩ := h.nst
                obtain ⟨q1, cur, q2, q3, q4, q5, q6⟩ := (h.hst b _ hlk).nreal hm'
                have hlen : (cellsAt w.heap g').length = cap' := by rw [cellsAt_of q2]; simpa using q4
                unfold RC
                refine ⟨_, _, rfl, hnc, q3, .inr ⟨g', 0, rfl, fun j hj => h.mlt _ _ _ hm', ?_⟩⟩
                rw [List.drop_zero, RCs_iff]
                refine ⟨by rw [List.length_take, hlen]; omega, fun i c x hc hx => ?_⟩
                have hi : i < cs1.length := (List.getElem?_eq_some_iff.1 hc).1
                rw [List.getElem?_take, if_pos hi] at hx
                obtain ⟨y, hy, hN⟩ := hL.nx b _ hlk g' cap' hm' i c hc (by simp)
                rw [hx] at hy; cases hy
                obtain ⟨r1, r2⟩ := hN.clean (F' := fun g _ => g < w.heap.size) (fun g j e => h.f2 g j e) (fun g j hg => (hL.lo g b i hg).2.1)
                exact ⟨r1, fun _ => r2⟩
              · have hcs : cs1 = [] := List.eq_nil_of_length_eq_zero hn0
                subst hcs
                unfold RC
                exact ⟨none, 0, rfl, Nat.le_refl _, Nat.zero_le _, .inl rfl⟩
      | top => exact hother hg
      | v y => exact hother hg
      | agg cs1 => exact hother hg
      | tup cs1 => exact hother hg
      | sl cs1 n => exact hother hg
      | fptr cs1 => exact hother hg
      | fn g caps => exact hother hg
      | box b off => exact hother hg
      | yld b => exact hother hg
      | ag cs1 => exact hother hg
    obtain ⟨F1, st1, c1, r1, e1, r2, g1⟩ := h1
    obtain ⟨F2, st2, cs2, h2, r3, g2⟩ := bz_map cs xs _ st1 F1 K r1 (by simpa using hl)
      (fun i c' x' hc hx => (hv (i + 1) c' x' (by simpa using hc) (by simpa using hx)).mono (fun _ _ e => e) e1 (Keeps.refl _ _)) g1
    exact ⟨F2, st2, c1 :: cs2, h2, ⟨⟨r2, fun e => by cases e⟩, r3⟩, g2⟩
end
end Go.Ev
/- A run of the model follows the evaluator: memory that the steps make and write. -/
set_option linter.unusedVariables false
set_option linter.unusedSimpArgs false
namespace Go.Ev
open Go.RowKit

section
variable {O : Nat → Prop} {w0 : World} {F0 : FZ} {M0 : MP} {D : List Deferred} {U : Nat → Prop} {F : FZ} {m : MP} {sz : Nat} {tm : TM} {st : ST} {a : Act} {w : World}

theorem Rel.own_new (h : Rel O w0 F0 M0 D U F m sz tm st a w) : O w.heap.size := h.hb _ h.below.size

theorem cellsAt_congr {H H' : Array Obj} {g : Nat} (h : H'[g]? = H[g]?) : cellsAt H' g = cellsAt H g := by simp [cellsAt, h]

/-- A box more. -/
theorem NOK.add {L : Nat → Nat → Nat → Prop} {O : Nat → Prop} {F : FZ} {m : MP} {st : ST} {H : Array Obj} (hL : NOK O F m st H L) {U : Nat → Prop} (hfr : ∀ b, U b → look st b = none ∧ m b = none) {id g cap : Nat} {x : Bx} (hU : U id) (hg : ∀ b i, ¬ L g b i)
    (hx : NX L (fun b => if b = id then some (g, cap) else m b) F H id x) : NOK O F (fun b => if b = id then some (g, cap) else m b) ((id, x) :: st) H L := by
  refine ⟨hL.lo, hL.un, fun b g' c ha hm => ?_, fun b y hy => ?_⟩
  · by_cases e : b = id
    · simp only [e, if_true, Option.some.injEq, Prod.mk.injEq] at hm
      rw [← hm.1]; exact hg
    · simp only [e, if_false] at hm
      obtain ⟨y, hy, hy0⟩ := ha
      rw [look_cons, if_neg (fun e' => e e'.symm)] at hy
      exact hL.al b g' c ⟨y, hy, hy0⟩ hm
  · rw [look_cons] at hy
    split at hy
    · next e => subst e; cases hy; exact hx
    · next hne =>
      have := hL.nx b y hy
      cases y with
      | nest e e2 s2 cs hole =>
        intro g' c hm
        have hne' : b ≠ id := fun e => hne e.symm
        simp only [hne', if_false] at hm
        exact this g' c hm
      | _ => trivial

/-- A box is written: not a list of lists, or as it is said. -/
theorem NOK.write {L : Nat → Nat → Nat → Prop} {O : Nat → Prop} {F : FZ} {m : MP} {st : ST} {H H' : Array Obj} (hL : NOK O F m st H L) {b g c : Nat} {x0 x1 : Bx} (hl : look st b = some x0) (h0 : x0 ≠ .dead) (hm : m b = some (g, c))
    (hk : Keeps F H H') (hsz : H.size ≤ H'.size) (hoth : ∀ k, k ≠ g → H'[k]? = H[k]?) (hinj : ∀ b' g' c', aliveB st b' → m b' = some (g', c') → g' = g → b' = b)
    (hx : NX L m F H' b x1) : NOK O F m ((b, x1) :: st) H' L := by
  have hab : aliveB st b := ⟨x0, hl, h0⟩
  have hal : ∀ b', aliveB ((b, x1) :: st) b' → aliveB st b' := by
    rintro b' ⟨y, hy, hy0⟩
    rw [look_cons] at hy
    split at hy
    · next e => subst e; exact hab
    · exact ⟨y, hy, hy0⟩
  refine hL.mono (fun _ _ e => e) hk hsz (fun g' b' i hg => ⟨hoth g' ?_, fun _ e => e⟩) (fun b' g' c' ha => hL.al b' g' c' (hal _ ha)) (fun b' y hy => ?_)
  · rintro rfl; exact hL.al b g' c hab hm b' i hg
  · rw [look_cons] at hy
    split at hy
    · next e => subst e; cases hy; exact .inr (.inl hx)
    · next hne =>
      rcases Bool.eq_false_or_eq_true (isNest y) with hn | hn
      rotate_left
      · exact .inl hn
      · refine .inr (.inr ⟨hy, fun g' c' hm' => ⟨hm', hoth g' fun e => ?_⟩⟩)
        have hyd : y ≠ .dead := by rintro rfl; cases hn
        exact hne (hinj b' g' c' ⟨y, hy, hyd⟩ hm' e).symm

/-- Fewer boxes, and boxes without a block. -/
theorem NOK.less {L : Nat → Nat → Nat → Prop} {O : Nat → Prop} {F : FZ} {m : MP} {st st' : ST} {H : Array Obj} (hL : NOK O F m st H L) (hal : ∀ b y, m b = some y → aliveB st' b → aliveB st b)
    (hn : ∀ b x, look st' b = some x → isNest x = false ∨ look st b = some x) : NOK O F m st' H L :=
  hL.mono (fun _ _ e => e) (Keeps.refl _ _) (Nat.le_refl _) (fun _ _ _ _ => ⟨rfl, fun _ e => e⟩) (fun b g c ha hm => hL.al b g c (hal b _ hm ha) hm)
    (fun b x hx => (hn b x hx).imp id fun e => .inr ⟨e, fun g c hm => ⟨hm, rfl⟩⟩)

/-- A block that a call has made becomes the call's own list. -/
theorem Rel.adoptA (h : Rel O w0 F0 M0 D U F m sz tm st a w) {id g cap : Nat} (hU : U id) {x : Bx} (hO : O g) (hlt : g < w.heap.size) (hno : ∀ b k c, aliveB st b → m b = some (k, c) → k ≠ g) (hx : x ≠ .dead) (hnn : isNest x = false) (hfree : ∃ L, NOK O F m st w.heap L ∧ ∀ b i, ¬ L g b i)
    (hbx : ∀ m', (∀ b y, m b = some y → m' b = some y) → m' id = some (g, cap) → RBx O m' F w.heap id x) :
    Rel O w0 F0 M0 D (fun b => U b ∧ b ≠ id) F (fun b => if b = id then some (g, cap) else m b) sz tm ((id, x) :: st) a w := by
  have hm : ∀ b y, m b = some y → (fun b => if b = id then some (g, cap) else m b) b = some y := by
    intro b y hb
    by_cases e : b = id
    · subst e; rw [(h.fresh b hU).2] at hb; cases hb
    · simp [e, hb]
  refine { htm := fun i => (h.htm i).mono hm (fun _ _ e => e) (Keeps.refl _ _), hsz := h.hsz, hde := h.hde, hst := ?_, inj := ?_, fresh := ?_, keep := h.keep, pin := fun b y e => hm b y (h.pin b y e), f0 := h.f0, f1 := h.f1, f2 := h.f2, mlt := ?_, below := h.below, hb := h.hb, nst := ?_ }
  · intro b y hy
    rw [look_cons] at hy
    split at hy
    · next e =>
      subst e; cases hy
      exact hbx _ hm (by simp)
    · next hne =>
      exact (h.hst b y hy).mono hm (fun _ _ e => e) (Keeps.refl _ _) (fun g' c hg => ⟨rfl, fun j hj => hj⟩) (fun e => by simp [show b ≠ id from fun e' => hne e'.symm, e])
  · intro b b' g1 c c' ha ha' hg hg'
    have al : ∀ b, b ≠ id → aliveB ((id, x) :: st) b → aliveB st b := by
      rintro b hb ⟨y, hy, hy0⟩
      rw [look_cons, if_neg (fun e => hb e.symm)] at hy
      exact ⟨y, hy, hy0⟩
    by_cases e : b = id
    · by_cases e' : b' = id
      · rw [e, e']
      · simp only [e, if_true, Option.some.injEq, Prod.mk.injEq] at hg
        simp only [e', if_false] at hg'
        exact absurd hg.1.symm (hno _ _ _ (al b' e' ha') hg')
    · by_cases e' : b' = id
      · simp only [e', if_true, Option.some.injEq, Prod.mk.injEq] at hg'
        simp only [e, if_false] at hg
        exact absurd hg'.1.symm (hno _ _ _ (al b e ha) hg)
      · simp only [e, if_false] at hg
        simp only [e', if_false] at hg'
        exact h.inj b b' g1 c c' (al b e ha) (al b' e' ha') hg hg'
  · rintro b ⟨hb, hne⟩
    refine ⟨?_, by simp [hne, (h.fresh b hb).2]⟩
    rw [look_cons, if_neg (fun e => hne e.symm)]
    exact (h.fresh b hb).1
  · intro b g1 c hb
    by_cases e : b = id
    · simp only [e, if_true, Option.some.injEq, Prod.mk.injEq] at hb
      omega
    · simp only [e, if_false] at hb
      exact h.mlt _ _ _ hb
  · obtain ⟨L, hL, hf⟩ := hfree
    exact ⟨L, hL.add h.fresh hU (fun b' i => hf b' i) (NX_of_not hnn)⟩

/-- A list that is nil. -/
theorem Rel.adoptNil (h : Rel O w0 F0 M0 D U F m sz tm st a w) {id size : Nat} {e : TypeId} (hU : U id) :
    Rel O w0 F0 M0 D (fun b => U b ∧ b ≠ id) F m sz tm ((id, .row e size [] 0) :: st) a w := by
  have hmn := (h.fresh id hU).2
  refine { h with hst := ?_, inj := ?_, fresh := ?_, nst := h.nst.imp fun L hL => hL.less (fun b y hb ha => ?_) fun b x hx => ?_ }
  · intro b y hy
    rw [look_cons] at hy
    split at hy
    · next e' => subst e'; cases hy; exact .inr ⟨hmn, rfl, rfl⟩
    · exact h.hst b y hy
  · intro b b' g1 c c' ha ha' hg hg'
    have al : ∀ b y, m b = some y → aliveB ((id, .row e size [] 0) :: st) b → aliveB st b := by
      rintro b y hb ⟨y', hy, hy0⟩
      have hne : id ≠ b := fun e' => by subst e'; rw [hmn] at hb; cases hb
      rw [look_cons, if_neg hne] at hy
      exact ⟨y', hy, hy0⟩
    exact h.inj b b' g1 c c' (al b _ hg ha) (al b' _ hg' ha') hg hg'
  · rintro b ⟨hb, hne⟩
    refine ⟨?_, (h.fresh b hb).2⟩
    rw [look_cons, if_neg (fun e => hne e.symm)]
    exact (h.fresh b hb).1
  · obtain ⟨y', hy, hy0⟩ := ha
    have hne : id ≠ b := fun e' => by subst e'; rw [hmn] at hb; cases hb
    rw [look_cons, if_neg hne] at hy
    exact ⟨y', hy, hy0⟩
  · rw [look_cons] at hx
    split at hx
    · cases hx; exact .inl rfl
    · exact .inr hx

/-- A new block. -/
theorem Rel.newP (h : Rel O w0 F0 M0 D U F m sz tm st a w) {PL : (Nat → Nat → Nat → Prop) → Prop} (hPL : ∃ L, NOK O F m st w.heap L ∧ PL L) {id cap : Nat} (hU : U id) {arr : Array Value} {ty : TypeId} {x : Bx} (hx : x ≠ .dead)
    (hbx : ∀ m', (∀ b y, m b = some y → m' b = some y) → m' id = some (w.heap.size, cap) → Keeps F w.heap (w.alloc (.cells arr ty)).heap →
      (w.alloc (.cells arr ty)).heap[w.heap.size]? = some (.cells arr ty (0, 0)) → (∀ j, ¬ F w.heap.size j) → RBx O m' F (w.alloc (.cells arr ty)).heap id x)
    (hnx : ∀ L m', PL L → m' id = some (w.heap.size, cap) → (w.alloc (.cells arr ty)).heap[w.heap.size]? = some (.cells arr ty (0, 0)) → NX L m' F (w.alloc (.cells arr ty)).heap id x := by intros; trivial) :
    Rel O w0 F0 M0 D (fun b => U b ∧ b ≠ id) F (fun b => if b = id then some (w.heap.size, cap) else m b) sz tm ((id, x) :: st) a (w.alloc (.cells arr ty)) ∧
    (∀ b y, m b = some y → (fun b => if b = id then some (w.heap.size, cap) else m b) b = some y) ∧ Keeps F w.heap (w.alloc (.cells arr ty)).heap := by
  have hm : ∀ b y, m b = some y → (fun b => if b = id then some (w.heap.size, cap) else m b) b = some y := by
    intro b y hb
    by_cases e : b = id
    · subst e; rw [(h.fresh b hU).2] at hb; cases hb
    · simp [e, hb]
  have hold : ∀ k, k < w.heap.size → (w.alloc (.cells arr ty)).heap[k]? = w.heap[k]? := fun k hk => Below.heap_alloc w _ _ hk
  have hk : Keeps F w.heap (w.alloc (.cells arr ty)).heap := fun g j hj => by rw [cellsAt_congr (hold g (h.f2 g j hj))]
  refine ⟨?_, hm, hk⟩
  refine { htm := fun i => (h.htm i).mono hm (fun _ _ e => e) hk, hsz := h.hsz, hde := h.hde, hst := ?_, inj := ?_, fresh := ?_, keep := fun g j hj => (hk g j (h.f0 _ _ hj)).trans (h.keep g j hj), pin := fun b y e => hm b y (h.pin b y e), f0 := h.f0, f1 := h.f1, f2 := ?_, mlt := ?_, below := h.below.alloc h.hb _, hb := h.hb, nst := ?_ }
  · intro b y hy
    rw [look_cons] at hy
    split at hy
    · next e =>
      subst e; cases hy
      exact hbx _ hm (by simp) hk (by have := heap_alloc_new w (.cells arr ty); exact this) (fun j hj => absurd (h.f2 _ _ hj) (by omega))
    · next hne =>
      refine (h.hst b y hy).mono hm (fun _ _ e => e) hk (fun g c hg => ⟨hold g (h.mlt _ _ _ hg), fun j hj => hj⟩) (fun e => by simp [show b ≠ id from fun e' => hne e'.symm, e])
  · intro b b' g c c' ha ha' hg hg'
    by_cases e : b = id
    · by_cases e' : b' = id
      · rw [e, e']
      · simp only [e, if_true, Option.some.injEq, Prod.mk.injEq] at hg
        simp only [e', if_false] at hg'
        exact absurd (h.mlt _ _ _ hg') (by omega)
    · by_cases e' : b' = id
      · simp only [e', if_true, Option.some.injEq, Prod.mk.injEq] at hg'
        simp only [e, if_false] at hg
        exact absurd (h.mlt _ _ _ hg) (by omega)
      · simp only [e, if_false] at hg
        simp only [e', if_false] at hg'
        have al : ∀ b, b ≠ id → aliveB ((id, x) :: st) b → aliveB st b := by
          rintro b hb ⟨y, hy, hy0⟩
          rw [look_cons, if_neg (fun e => hb e.symm)] at hy
          exact ⟨y, hy, hy0⟩
        exact h.inj b b' g c c' (al b e ha) (al b' e' ha') hg hg'
  · rintro b ⟨hb, hne⟩
    refine ⟨?_, by simp [hne, (h.fresh b hb).2]⟩
    rw [look_cons, if_neg (fun e => hne e.symm)]
    exact (h.fresh b hb).1
  · intro g j hj
    have := h.f2 g j hj
    simp; omega
  · intro b g c hb
    by_cases e : b = id
    · simp only [e, if_true, Option.some.injEq, Prod.mk.injEq] at hb
      simp; omega
    · simp only [e, if_false] at hb
      have := h.mlt _ _ _ hb
      simp; omega
  · obtain ⟨L, hL, hPL0⟩ := hPL
    have hL1 : NOK O F m st (w.alloc (.cells arr ty)).heap L := hL.mono (fun _ _ e => e) hk (by simp) (fun g b i hg => ⟨hold g (hL.lo g b i hg).2.1, fun _ e => e⟩) hL.al
      (fun b x hx => .inr (.inr ⟨hx, fun g c hm => ⟨hm, hold g (h.mlt _ _ _ hm)⟩⟩))
    exact ⟨L, hL1.add h.fresh hU (fun b i hg => absurd (hL.lo _ b i hg).2.1 (Nat.lt_irrefl _)) (hnx L _ hPL0 (by simp) (by have := heap_alloc_new w (.cells arr ty); exact this))⟩

theorem Rel.new (h : Rel O w0 F0 M0 D U F m sz tm st a w) {id cap : Nat} (hU : U id) {arr : Array Value} {ty : TypeId} {x : Bx} (hx : x ≠ .dead)
    (hbx : ∀ m', (∀ b y, m b = some y → m' b = some y) → m' id = some (w.heap.size, cap) → Keeps F w.heap (w.alloc (.cells arr ty)).heap →
      (w.alloc (.cells arr ty)).heap[w.heap.size]? = some (.cells arr ty (0, 0)) → (∀ j, ¬ F w.heap.size j) → RBx O m' F (w.alloc (.cells arr ty)).heap id x)
    (hnx : ∀ L m', m' id = some (w.heap.size, cap) → (w.alloc (.cells arr ty)).heap[w.heap.size]? = some (.cells arr ty (0, 0)) → NX L m' F (w.alloc (.cells arr ty)).heap id x := by intros; trivial) :
    Rel O w0 F0 M0 D (fun b => U b ∧ b ≠ id) F (fun b => if b = id then some (w.heap.size, cap) else m b) sz tm ((id, x) :: st) a (w.alloc (.cells arr ty)) ∧
    (∀ b y, m b = some y → (fun b => if b = id then some (w.heap.size, cap) else m b) b = some y) ∧ Keeps F w.heap (w.alloc (.cells arr ty)).heap :=
  h.newP (PL := fun _ => True) (h.nst.imp fun _ hL => ⟨hL, trivial⟩) hU hx hbx fun L m' _ => hnx L m'

/-- A box is written. -/
theorem Rel.store (h : Rel O w0 F0 M0 D U F m sz tm st a w) {b g c : Nat} {x0 x1 : Bx} (hl : look st b = some x0) (h0 : x0 ≠ .dead) (h1 : x1 ≠ .dead) (hm : m b = some (g, c)) (hg : O g)
    {arr arr' : Array Value} {ty : TypeId} (hh : w.heap[g]? = some (.cells arr ty (0, 0))) (hsame : ∀ j, F g j → arr'.toList[j]? = arr.toList[j]?)
    (hx : Keeps F w.heap (w.setRow g arr').heap → (w.setRow g arr').heap[g]? = some (.cells arr' ty (0, 0)) → RBx O m F (w.setRow g arr').heap b x1) (hnn : isNest x1 = false := by rfl) :
    Rel O w0 F0 M0 D U F m sz tm ((b, x1) :: st) a (w.setRow g arr') ∧ Keeps F w.heap (w.setRow g arr').heap := by
  have hnew : (w.setRow g arr').heap[g]? = some (.cells arr' ty (0, 0)) := setRow_heap w g arr arr' ty _ hh
  have hk : Keeps F w.heap (w.setRow g arr').heap := by
    intro k j hj
    by_cases e : k = g
    · subst e
      rw [cellsAt_of hnew, cellsAt_of hh]
      exact hsame j hj
    · rw [cellsAt_congr (setRow_other w g k arr' e)]
  have hal : ∀ b', aliveB ((b, x1) :: st) b' → aliveB st b' := by
    rintro b' ⟨y, hy, hy0⟩
    rw [look_cons] at hy
    split at hy
    · next e => subst e; exact ⟨x0, hl, h0⟩
    · exact ⟨y, hy, hy0⟩
  refine ⟨?_, hk⟩
  refine { htm := fun i => (h.htm i).mono (fun _ _ e => e) (fun _ _ e => e) hk, hsz := h.hsz, hde := h.hde, hst := ?_, inj := fun b1 b2 g' c1 c2 a1 a2 => h.inj b1 b2 g' c1 c2 (hal _ a1) (hal _ a2), fresh := ?_, keep := fun g j hj => (hk g j (h.f0 _ _ hj)).trans (h.keep g j hj), pin := h.pin, f0 := h.f0, f1 := h.f1, f2 := ?_, mlt := ?_, below := ?_, hb := h.hb, nst := h.nst.imp fun L hL => hL.write hl h0 hm hk (by simp [World.setRow]) (fun k e => setRow_other w g k arr' e) (fun b' g' c' ha hm' e => h.inj b' b g c' c ha ⟨x0, hl, h0⟩ (e ▸ hm') hm) (NX_of_not hnn) }
  · intro b' y hy
    rw [look_cons] at hy
    split at hy
    · next e => subst e; cases hy; exact hx hk hnew
    · next hne =>
      by_cases hd : y = .dead
      · subst hd; trivial
      refine (h.hst b' y hy).mono (fun _ _ e => e) (fun _ _ e => e) hk (fun g' c' hm' => ⟨?_, fun j hj => hj⟩) id
      refine setRow_other w g g' arr' ?_
      rintro rfl
      exact hne (h.inj b b' g' c c' ⟨x0, hl, h0⟩ ⟨y, hy, hd⟩ hm hm')
  · intro b' hb'
    obtain ⟨e1, e2⟩ := h.fresh b' hb'
    refine ⟨?_, e2⟩
    rw [look_cons, if_neg (fun e => by subst e; rw [hl] at e1; cases e1)]
    exact e1
  · intro k j hj; have := h.f2 k j hj; simpa [World.setRow] using this
  · intro b g c hb; have := h.mlt b g c hb; simpa [World.setRow] using this
  · exact h.below.trans ⟨rfl, rfl, rfl, by simp [World.setRow], fun k hno => setRow_other w g k arr' (fun e => hno (e ▸ hg))⟩

/-- A box takes the place of another one, in the same block: behind an append that had room. -/
theorem Rel.rename (h : Rel O w0 F0 M0 D U F m sz tm st a w) {b id g c : Nat} (hU : U id) {x0 x1 : Bx} (hl : look st b = some x0) (h0 : x0 ≠ .dead) (h1 : x1 ≠ .dead) (hm : m b = some (g, c))
    (hx : ∀ m', (∀ b y, m b = some y → m' b = some y) → m' id = some (g, c) → RBx O m' F w.heap id x1) (hnn : isNest x1 = false := by rfl) :
    Rel O w0 F0 M0 D (fun b => U b ∧ b ≠ id) F (fun k => if k = id then some (g, c) else m k) sz tm ((id, x1) :: (b, .dead) :: st) a w ∧ (∀ b y, m b = some y → (fun k => if k = id then some (g, c) else m k) b = some y) := by
  have hbi : b ≠ id := fun e => by subst e; rw [(h.fresh b hU).1] at hl; cases hl
  have hmm : ∀ b y, m b = some y → (fun k => if k = id then some (g, c) else m k) b = some y := by
    intro b y hb
    by_cases e : b = id
    · subst e; rw [(h.fresh b hU).2] at hb; cases hb
    · simp [e, hb]
  have hal : ∀ b', b' ≠ id → aliveB ((id, x1) :: (b, .dead) :: st) b' → aliveB st b' ∧ b' ≠ b := by
    rintro b' hne ⟨y, hy, hy0⟩
    rw [look_cons, if_neg (fun e => hne e.symm), look_cons] at hy
    split at hy
    · cases hy; exact absurd rfl hy0
    · next e => exact ⟨⟨y, hy, hy0⟩, fun e' => e e'.symm⟩
  refine ⟨?_, hmm⟩
  refine { htm := fun i => (h.htm i).mono hmm (fun _ _ e => e) (Keeps.refl _ _), hsz := h.hsz, hde := h.hde, hst := ?_, inj := ?_, fresh := ?_, keep := h.keep, pin := fun b y e => hmm b y (h.pin b y e), f0 := h.f0, f1 := h.f1, f2 := h.f2, mlt := ?_, below := h.below, hb := h.hb, nst := ?_ }
  · intro b' y hy
    rw [look_cons] at hy
    split at hy
    · next e => subst e; cases hy; exact hx _ hmm (by simp)
    · rw [look_cons] at hy
      split at hy
      · cases hy; trivial
      · have hne' : b' ≠ id := fun e' => by
          subst e'
          rw [(h.fresh b' hU).1] at hy
          cases hy
        exact (h.hst b' y hy).mono hmm (fun _ _ e => e) (Keeps.refl _ _) (fun g' c' hg' => ⟨rfl, fun j hj => hj⟩) (fun e => by simp [hne', e])
  · intro b1 b2 g' c1 c2 a1 a2 h1 h2
    by_cases e1 : b1 = id
    · by_cases e2 : b2 = id
      · rw [e1, e2]
      · simp only [e1, if_true, Option.some.injEq, Prod.mk.injEq] at h1
        simp only [e2, if_false] at h2
        obtain ⟨al, hne⟩ := hal b2 e2 a2
        have := h.inj b2 b g' c2 c al ⟨x0, hl, h0⟩ h2 (by rw [hm, h1.1])
        exact absurd this hne
    · by_cases e2 : b2 = id
      · simp only [e2, if_true, Option.some.injEq, Prod.mk.injEq] at h2
        simp only [e1, if_false] at h1
        obtain ⟨al, hne⟩ := hal b1 e1 a1
        have := h.inj b1 b g' c1 c al ⟨x0, hl, h0⟩ h1 (by rw [hm, h2.1])
        exact absurd this hne
      · simp only [e1, if_false] at h1
        simp only [e2, if_false] at h2
        exact h.inj b1 b2 g' c1 c2 (hal b1 e1 a1).1 (hal b2 e2 a2).1 h1 h2
  · rintro b' ⟨hb', hne⟩
    refine ⟨?_, by simp [hne, (h.fresh b' hb').2]⟩
    have h3 := (h.fresh b' hb').1
    rw [look_cons, if_neg (fun e => hne e.symm), look_cons, if_neg (fun e => by subst e; rw [hl] at h3; cases h3)]
    exact h3
  · intro b' g' c' hb'
    by_cases e : b' = id
    · simp only [e, if_true, Option.some.injEq, Prod.mk.injEq] at hb'
      rw [← hb'.1]
      exact h.mlt b g c hm
    · simp only [e, if_false] at hb'
      exact h.mlt _ _ _ hb'
  · obtain ⟨L, hL⟩ := h.nst
    have hL1 : NOK O F m ((b, .dead) :: st) w.heap L := hL.write hl h0 hm (Keeps.refl _ _) (Nat.le_refl _) (fun _ _ => rfl) (fun b' g' c' ha hm' e => h.inj b' b g c' c ha ⟨x0, hl, h0⟩ (e ▸ hm') hm) trivial
    refine ⟨L, hL1.add (U := U) (fun b' hb' => ?_) hU (hL.al b g c ⟨x0, hl, h0⟩ hm) (NX_of_not hnn)⟩
    have h3 := h.fresh b' hb'
    refine ⟨?_, h3.2⟩
    rw [look_cons, if_neg (fun e => by subst e; rw [hl] at h3; cases h3.1)]
    exact h3.1

/-- A row that is not there yet. -/
theorem Rel.virt (h : Rel O w0 F0 M0 D U F m sz tm st a w) {id size : Nat} {e : TypeId} (hU : U id) : Rel O w0 F0 M0 D (fun b => U b ∧ b ≠ id) F m sz tm ((id, .row e size [] 0) :: st) a w := by
  have hmi := (h.fresh id hU).2
  have hal : ∀ b', b' ≠ id → aliveB ((id, .row e size [] 0) :: st) b' → aliveB st b' := by
    rintro b' hb ⟨y, hy, hy0⟩
    rw [look_cons, if_neg (fun e => hb e.symm)] at hy
    exact ⟨y, hy, hy0⟩
  refine { h with hst := ?_, inj := ?_, fresh := ?_, nst := h.nst.imp fun L hL => hL.less (fun b y hb ha => hal b (fun e => by subst e; rw [hmi] at hb; cases hb) ha) fun b x hx => (by
    rw [look_cons] at hx
    split at hx
    · cases hx; exact .inl rfl
    · exact .inr hx) }
  · intro b' y hy
    rw [look_cons] at hy
    split at hy
    · next e => subst e; cases hy; exact .inr ⟨hmi, rfl, rfl⟩
    · exact h.hst b' y hy
  · intro b1 b2 g c1 c2 a1 a2 h1 h2
    have e1 : b1 ≠ id := fun e => by subst e; rw [hmi] at h1; cases h1
    have e2 : b2 ≠ id := fun e => by subst e; rw [hmi] at h2; cases h2
    exact h.inj b1 b2 g c1 c2 (hal _ e1 a1) (hal _ e2 a2) h1 h2
  · rintro b' ⟨hb', hne⟩
    refine ⟨?_, (h.fresh b' hb').2⟩
    rw [look_cons, if_neg (fun e => hne e.symm)]
    exact (h.fresh b' hb').1

/-- A box is given up. -/
theorem Rel.kill (h : Rel O w0 F0 M0 D U F m sz tm st a w) {b : Nat} {x0 : Bx} (hl : look st b = some x0) : Rel O w0 F0 M0 D U F m sz tm ((b, .dead) :: st) a w := by
  have hal : ∀ b', aliveB ((b, .dead) :: st) b' → aliveB st b' := by
    rintro b' ⟨y, hy, hy0⟩
    rw [look_cons] at hy
    split at hy
    · cases hy; exact absurd rfl hy0
    · exact ⟨y, hy, hy0⟩
  refine { h with hst := ?_, inj := fun b1 b2 g' c1 c2 a1 a2 => h.inj b1 b2 g' c1 c2 (hal _ a1) (hal _ a2), fresh := ?_, nst := h.nst.imp fun L hL => hL.less (fun b y hb ha => hal b ha) fun b x hx => (by
    rw [look_cons] at hx
    split at hx
    · cases hx; exact .inl rfl
    · exact .inr hx) }
  · intro b' y hy
    rw [look_cons] at hy
    split at hy
    · cases hy; trivial
    · exact h.hst b' y hy
  · intro b' hb'
    obtain ⟨e1, e2⟩ := h.fresh b' hb'
    refine ⟨?_, e2⟩
    rw [look_cons, if_neg (fun e => by subst e; rw [hl] at e1; cases e1)]
    exact e1

/-- A list is taken out of a list of lists. -/
theorem Rel.hole (h : Rel O w0 F0 M0 D U F m sz tm st a w) {b g cap : Nat} {e e2 : TypeId} {s2 : Nat} {cs : List V} {hole : List Nat} (hl : look st b = some (.nest e e2 s2 cs hole)) (hm : m b = some (g, cap)) (off : Nat) {L : Nat → Nat → Nat → Prop} (hL : NOK O F m st w.heap L) :
    NOK O F m ((b, .nest e e2 s2 cs (off :: hole)) :: st) w.heap (fun g b' i => L g b' i ∧ ¬ (b' = b ∧ i = off)) ∧ Rel O w0 F0 M0 D U F m sz tm ((b, .nest e e2 s2 cs (off :: hole)) :: st) a w := by
  have hal : ∀ b', aliveB ((b, .nest e e2 s2 cs (off :: hole)) :: st) b' → aliveB st b' := by
    rintro b' ⟨y, hy, hy0⟩
    rw [look_cons] at hy
    split at hy
    · next e => subst e; exact ⟨_, hl, by simp⟩
    · exact ⟨y, hy, hy0⟩
  have hN : NOK O F m ((b, .nest e e2 s2 cs (off :: hole)) :: st) w.heap (fun g b' i => L g b' i ∧ ¬ (b' = b ∧ i = off)) := by
    refine ⟨fun g b' i hg => hL.lo g b' i hg.1, fun g b1 i1 b2 i2 h1 h2 => hL.un g b1 i1 b2 i2 h1.1 h2.1, fun b' g c ha hm b2 i hg => hL.al b' g c (hal _ ha) hm b2 i hg.1, fun b' x hx => ?_⟩
    rw [look_cons] at hx
    split at hx
    · next eb =>
      subst eb; cases hx
      intro g' c hm' i c1 hc hh
      obtain ⟨y, hy, hN⟩ := hL.nx b _ hl g' c hm' i c1 hc (fun e => hh (List.mem_cons_of_mem _ e))
      exact ⟨y, hy, hN.mono (fun _ _ e => e) (Keeps.refl _ _) fun g2 n2 c2 _ hg => ⟨⟨hg, fun e => hh (by rw [e.2]; exact List.mem_cons_self)⟩, rfl⟩⟩
    · next hne =>
      have := hL.nx b' x hx
      cases x with
      | nest _ _ _ cs' hole' =>
        intro g' c hm' i c1 hc hh
        obtain ⟨y, hy, hN⟩ := this g' c hm' i c1 hc hh
        exact ⟨y, hy, hN.mono (fun _ _ e => e) (Keeps.refl _ _) fun g2 n2 c2 _ hg => ⟨⟨hg, fun e => hne e.1.symm⟩, rfl⟩⟩
      | _ => trivial
  refine ⟨hN, { h with hst := ?_, inj := fun b1 b2 g' c1 c2 a1 a2 => h.inj b1 b2 g' c1 c2 (hal _ a1) (hal _ a2), fresh := ?_, nst := ⟨_, hN⟩ }⟩
  · intro b' y hy
    rw [look_cons] at hy
    split at hy
    · next eb =>
      subst eb; cases hy
      obtain ⟨q1, cur, q⟩ := (h.hst b _ hl).nreal hm
      exact .inl ⟨g, cap, cur, hm, q1, q⟩
    · exact h.hst b' y hy
  · intro b' hb'
    obtain ⟨e1, e2⟩ := h.fresh b' hb'
    refine ⟨?_, e2⟩
    rw [look_cons, if_neg (fun e => by subst e; rw [hl] at e1; cases e1)]
    exact e1

theorem Rel.take (h : Rel O w0 F0 M0 D U F m sz tm st a w) {id b g cap off n : Nat} {e e2 : TypeId} {s2 : Nat} {cs ls : List V} {hole : List Nat} (hU : U id) (hl : look st b = some (.nest e e2 s2 cs hole)) (hm : m b = some (g, cap)) (hc : cs[off]? = some (.sl ls n)) (hno : off ∉ hole) :
    ∃ m' x, Rel O w0 F0 M0 D (fun b => U b ∧ b ≠ id) F m' sz tm ((id, .row e2 s2 ls 0) :: (b, .nest e e2 s2 cs (off :: hole)) :: st) a w ∧ (cellsAt w.heap g)[off]? = some x ∧ RV m' F w.heap (.osl id n) x := by
  obtain ⟨L, hL⟩ := h.nst
  obtain ⟨hN, hR⟩ := h.hole hl hm off hL
  obtain ⟨x, hx, ls', n', he, hlen, hpos, hx2⟩ := hL.nx b _ hl g cap hm off _ hc hno
  cases he
  rcases hx2 with ⟨rfl, rfl⟩ | ⟨g', cap', cur, rfl, q1, q2, q3, q4, q5, q6⟩
  · have hls : ls = [] := List.eq_nil_of_length_eq_zero (by omega)
    subst hls
    exact ⟨m, _, hR.adoptNil hU, hx, .inr ⟨rfl, rfl⟩⟩
  · obtain ⟨r1, r2, r3⟩ := hL.lo g' b off q1
    have hal : ∀ b k c, aliveB st b → m b = some (k, c) → k ≠ g' := fun b' k c ha hm' e => hL.al b' k c ha hm' b off (e ▸ q1)
    refine ⟨_, _, hR.adoptA (id := id) (g := g') (cap := cap') (x := .row e2 s2 ls 0) hU r1 r2 ?_ (by simp) rfl ⟨_, hN, fun b' i hg => ?_⟩ (fun m' hm' hid => .inl ⟨g', cap', cur, hid, r1, q4, q3, q5, hpos, q6, fun j hj => absurd hj (r3 j), fun j hj => absurd hj (Nat.not_lt_zero _), Nat.zero_le _⟩), hx, .inl ⟨g', cap', by simp, q2, rfl⟩⟩
    · rintro b' k c ⟨y, hy, hy0⟩ hm'
      rw [look_cons] at hy
      split at hy
      · next eb => subst eb; exact hal b k c ⟨_, hl, by simp⟩ hm'
      · exact hal b' k c ⟨y, hy, hy0⟩ hm'
    · obtain ⟨e1, e2⟩ := hL.un g' b' i b off hg.1 q1
      exact hg.2 ⟨e1, e2⟩

/-- A list is put into a list of lists. -/
theorem Rel.give (h : Rel O w0 F0 M0 D U F m sz tm st a w) {b b2 g cap off n : Nat} {e e2 : TypeId} {s2 : Nat} {cs ls : List V} {hole hole1 : List Nat} {x : Value} (hl : look st b = some (.nest e e2 s2 cs hole)) (hm : m b = some (g, cap))
    (hl2 : look st b2 = some (.row e2 s2 ls 0)) (hbb : b2 ≠ b) (hlen : n * s2 = ls.length) (hpos : 0 < s2) (hoff : off < cs.length) (hhole : ∀ i, i ∉ hole1 → i = off ∨ i ∉ hole) (hx : RV m F w.heap (.osl b2 n) x) :
    ∃ cur ty, w.heap[g]? = some (.cells cur ty (0, 0)) ∧ off + 1 ≤ cur.size ∧ x.oneCell' = true ∧ x.cells = #[x] ∧
      Rel O w0 F0 M0 D U F m sz tm ((b, .nest e e2 s2 (cs.set off (.sl ls n)) hole1) :: (b2, .dead) :: st) a (w.setRow g (cur.toList.take off ++ [x] ++ cur.toList.drop (off + 1)).toArray) := by
  obtain ⟨hO, cur, hh, hcap, hcs, hle, hnF⟩ := (h.hst b _ hl).nreal hm
  obtain ⟨L, hL⟩ := h.nst
  have hoc : off + 1 ≤ cur.size := by omega
  have hxs : x.oneCell' = true ∧ x.cells = #[x] := by
    rcases hx with ⟨_, _, _, _, rfl⟩ | ⟨_, rfl⟩ <;> exact ⟨rfl, rfl⟩
  refine ⟨cur, e, hh, hoc, hxs.1, hxs.2, ?_⟩
  generalize harr : (cur.toList.take off ++ [x] ++ cur.toList.drop (off + 1)).toArray = arr'
  have hnew : (w.setRow g arr').heap[g]? = some (.cells arr' e (0, 0)) := setRow_heap w g cur arr' e _ hh
  have hoth : ∀ k, k ≠ g → (w.setRow g arr').heap[k]? = w.heap[k]? := fun k hk => setRow_other w g k arr' hk
  have hk : Keeps F w.heap (w.setRow g arr').heap := by
    intro k j hj
    by_cases ek : k = g
    · subst ek; exact absurd hj (hnF j)
    · rw [cellsAt_congr (hoth k ek)]
  have hget : ∀ i, arr'.toList[i]? = if i = off then some x else cur.toList[i]? := by
    intro i
    subst harr
    simp only [List.append_assoc]
    by_cases hi : i < off
    · rw [List.getElem?_append_left (by rw [List.length_take, Array.length_toList]; omega), List.getElem?_take, if_pos hi, if_neg (by omega)]
    · rw [List.getElem?_append_right (by rw [List.length_take, Array.length_toList]; omega), List.length_take, Array.length_toList, Nat.min_eq_left (by omega)]
      by_cases hi2 : i = off
      · subst hi2; simp
      · rw [if_neg hi2, show i - off = (i - off - 1) + 1 by omega, List.singleton_append, List.getElem?_cons_succ, List.getElem?_drop]
        congr 1; omega
  have hsz : arr'.size = cap := by
    subst harr
    simp only [List.size_toArray, List.length_append, List.length_take, List.length_drop, Array.length_toList, List.length_singleton]
    omega
  have hab : aliveB st b := ⟨_, hl, by simp⟩
  have hab2 : aliveB st b2 := ⟨_, hl2, by simp⟩
  have hlk : ∀ b' y, look ((b, Bx.nest e e2 s2 (cs.set off (.sl ls n)) hole1) :: (b2, .dead) :: st) b' = some y → (b' = b ∧ y = .nest e e2 s2 (cs.set off (.sl ls n)) hole1) ∨ y = .dead ∨ (b' ≠ b ∧ b' ≠ b2 ∧ look st b' = some y) := by
    intro b' y hy
    rw [look_cons] at hy
    split at hy
    · next eb => cases hy; exact .inl ⟨eb.symm, rfl⟩
    · next hne =>
      rw [look_cons] at hy
      split at hy
      · cases hy; exact .inr (.inl rfl)
      · next hne2 => exact .inr (.inr ⟨fun e => hne e.symm, fun e => hne2 e.symm, hy⟩)
  have hal : ∀ b', aliveB ((b, Bx.nest e e2 s2 (cs.set off (.sl ls n)) hole1) :: (b2, .dead) :: st) b' → aliveB st b' ∧ b' ≠ b2 := by
    rintro b' ⟨y, hy, hy0⟩
    rcases hlk b' y hy with ⟨rfl, rfl⟩ | rfl | ⟨h1, h2, h3⟩
    · exact ⟨hab, hbb.symm⟩
    · exact absurd rfl hy0
    · exact ⟨⟨y, h3, hy0⟩, h2⟩
  refine { htm := fun i => (h.htm i).mono (fun _ _ e => e) (fun _ _ e => e) hk, hsz := h.hsz, hde := h.hde, hst := ?_, inj := fun b1 b2 g' c1 c2 a1 a2 => h.inj b1 b2 g' c1 c2 (hal _ a1).1 (hal _ a2).1, fresh := ?_, keep := fun g j hj => (hk g j (h.f0 _ _ hj)).trans (h.keep g j hj), pin := h.pin, f0 := h.f0, f1 := h.f1, f2 := ?_, mlt := ?_, below := ?_, hb := h.hb, nst := ?_ }
  · intro b' y hy
    rcases hlk b' y hy with ⟨rfl, rfl⟩ | rfl | ⟨h1, h2, h3⟩
    · exact .inl ⟨g, cap, arr', hm, hO, hnew, hcap, hsz, by rw [List.length_set]; exact hle, hnF⟩
    · trivial
    · by_cases hd : y = .dead
      · subst hd; trivial
      refine (h.hst b' y h3).mono (fun _ _ e => e) (fun _ _ e => e) hk (fun g' c' hm' => ⟨hoth g' ?_, fun j hj => hj⟩) id
      rintro rfl
      exact h1 (h.inj b' b g' c' cap ⟨y, h3, hd⟩ hab hm' hm)
  · intro b' hb'
    obtain ⟨e1, e2⟩ := h.fresh b' hb'
    refine ⟨?_, e2⟩
    rw [look_cons, if_neg (fun e => by subst e; rw [hl] at e1; cases e1), look_cons, if_neg (fun e => by subst e; rw [hl2] at e1; cases e1)]
    exact e1
  · intro k j hj; have := h.f2 k j hj; simpa [World.setRow] using this
  · intro b g c hb; have := h.mlt b g c hb; simpa [World.setRow] using this
  · exact h.below.trans ⟨rfl, rfl, rfl, by simp [World.setRow], fun k hno => setRow_other w g k arr' (fun e => hno (e ▸ hO))⟩
  · have hLg : ∀ k b' i, L k b' i → (w.setRow g arr').heap[k]? = w.heap[k]? := fun k b' i hg => hoth k fun e => hL.al b g cap hab hm b' i (e ▸ hg)
    refine ⟨fun k b' i => (L k b' i ∧ ¬ (b' = b ∧ i = off)) ∨ ((∃ c, m b2 = some (k, c)) ∧ b' = b ∧ i = off), ?_, ?_, ?_, ?_⟩
    · rintro k b' i (⟨hg, _⟩ | ⟨⟨c, hm2⟩, _⟩)
      · obtain ⟨q1, q2, q3⟩ := hL.lo k b' i hg
        exact ⟨q1, by simpa [World.setRow] using q2, q3⟩
      · obtain ⟨g', cap', cur', q1, q2, q3, q4, q5, q6, q7, q8, q9, q10⟩ := (h.hst b2 _ hl2).real hm2
        rw [hm2] at q1; cases q1
        exact ⟨q2, by have := h.mlt _ _ _ hm2; simpa [World.setRow] using this, fun j hj => absurd (q8 j hj) (Nat.not_lt_zero _)⟩
    · rintro k b1 i1 b3 i3 (⟨h1, _⟩ | ⟨⟨c, hm1⟩, rfl, rfl⟩) (⟨h3, _⟩ | ⟨⟨c', hm3⟩, rfl, rfl⟩)
      · exact hL.un k b1 i1 b3 i3 h1 h3
      · exact absurd h1 (hL.al b2 k c' hab2 hm3 _ _)
      · exact absurd h3 (hL.al b2 k c hab2 hm1 _ _)
      · exact ⟨rfl, rfl⟩
    · rintro b' k c ha hm' b1 i (⟨hg, _⟩ | ⟨⟨c', hm2⟩, _⟩)
      · exact hL.al b' k c (hal _ ha).1 hm' b1 i hg
      · exact (hal _ ha).2 (h.inj b' b2 k c c' (hal _ ha).1 hab2 hm' hm2)
    · intro b' y hy
      rcases hlk b' y hy with ⟨rfl, rfl⟩ | rfl | ⟨h1, h2, h3⟩
      · intro g' c' hm' i c1 hc1 hni
        rw [hm] at hm'; cases hm'
        rw [cellsAt_of hnew, hget]
        by_cases hi : i = off
        · subst hi
          rw [if_pos rfl]
          rw [List.getElem?_set_self hoff] at hc1
          cases hc1
          refine ⟨x, rfl, ls, n, rfl, hlen, hpos, ?_⟩
          rcases hx with ⟨g2, cap2, hm2, hnc, rfl⟩ | ⟨rfl, rfl⟩
          · obtain ⟨g', cap', cur', q1, q2, q3, q4, q5, q6, q7, q8, q9, q10⟩ := (h.hst b2 _ hl2).real hm2
            rw [hm2] at q1; cases q1
            have hne : g2 ≠ g := by rintro rfl; exact hbb (h.inj b2 b' g2 cap2 cap hab2 hab hm2 hm)
            exact .inr ⟨g2, cap2, cur', rfl, .inr ⟨⟨cap2, hm2⟩, rfl, rfl⟩, hnc, q4, by rw [hoth g2 hne]; exact q3, q5, RCs.mono (fun _ _ e => e) hk _ _ q7⟩
          · exact .inl ⟨rfl, rfl⟩
        · rw [if_neg hi]
          rw [List.getElem?_set_ne (fun e => hi e.symm)] at hc1
          obtain ⟨y, hy, hN⟩ := hL.nx b' _ hl g cap hm i c1 hc1 ((hhole i hni).resolve_left hi)
          rw [cellsAt_of hh] at hy
          exact ⟨y, hy, hN.mono (fun _ _ e => e) hk fun g2 n2 c2 _ hg => ⟨.inl ⟨hg, fun e => hi e.2⟩, hLg g2 _ _ hg⟩⟩
      · trivial
      · have := hL.nx b' y h3
        cases y with
        | nest _ _ _ cs' hole' =>
          intro g' c' hm' i c1 hc1 hh1
          obtain ⟨y, hy, hN⟩ := this g' c' hm' i c1 hc1 hh1
          have hne : g' ≠ g := by rintro rfl; exact h1 (h.inj b' b g' c' cap ⟨_, h3, by simp⟩ hab hm' hm)
          rw [cellsAt_congr (hoth g' hne)]
          exact ⟨y, hy, hN.mono (fun _ _ e => e) hk fun g2 n2 c2 _ hg => ⟨.inl ⟨hg, fun e => h1 e.1⟩, hLg g2 _ _ hg⟩⟩
        | _ => trivial

/-- A list is taken whole: its block is now in the list of lists that is to be made (number id). -/
theorem Rel.pend (h : Rel O w0 F0 M0 D U F m sz tm st a w) {id i b2 n : Nat} {e2 : TypeId} {s2 : Nat} {ls : List V} {x : Value} (hl2 : look st b2 = some (.row e2 s2 ls 0)) (hlen : n * s2 = ls.length) (hpos : 0 < s2)
    (hx : RV m F w.heap (.osl b2 n) x) {L : Nat → Nat → Nat → Prop} (hL : NOK O F m st w.heap L) :
    ∃ L', NOK O F m ((b2, .dead) :: st) w.heap L' ∧ Rel O w0 F0 M0 D U F m sz tm ((b2, .dead) :: st) a w ∧ (∀ g b j, L g b j → L' g b j) ∧ NIn F w.heap L' id i e2 s2 x (.sl ls n) := by
  have hab2 : aliveB st b2 := ⟨_, hl2, by simp⟩
  have hal : ∀ b', aliveB ((b2, .dead) :: st) b' → aliveB st b' ∧ b' ≠ b2 := by
    rintro b' ⟨y, hy, hy0⟩
    rw [look_cons] at hy
    split at hy
    · cases hy; exact absurd rfl hy0
    · next hne => exact ⟨⟨y, hy, hy0⟩, fun e => hne e.symm⟩
  have hN : NOK O F m ((b2, .dead) :: st) w.heap (fun k b' j => L k b' j ∨ ((∃ c, m b2 = some (k, c)) ∧ b' = id ∧ j = i)) := by
    refine ⟨?_, ?_, ?_, ?_⟩
    · rintro k b' j (hg | ⟨⟨c, hm2⟩, _⟩)
      · exact hL.lo k b' j hg
      · obtain ⟨g', cap', cur', q1, q2, q3, q4, q5, q6, q7, q8, q9, q10⟩ := (h.hst b2 _ hl2).real hm2
        rw [hm2] at q1; cases q1
        exact ⟨q2, h.mlt _ _ _ hm2, fun j hj => absurd (q8 j hj) (Nat.not_lt_zero _)⟩
    · rintro k b1 i1 b3 i3 (h1 | ⟨⟨c, hm1⟩, rfl, rfl⟩) (h3 | ⟨⟨c', hm3⟩, rfl, rfl⟩)
      · exact hL.un k b1 i1 b3 i3 h1 h3
      · exact absurd h1 (hL.al b2 k c' hab2 hm3 _ _)
      · exact absurd h3 (hL.al b2 k c hab2 hm1 _ _)
      · exact ⟨rfl, rfl⟩
    · rintro b' k c ha hm' b1 i1 (hg | ⟨⟨c', hm2⟩, _⟩)
      · exact hL.al b' k c (hal _ ha).1 hm' b1 i1 hg
      · exact (hal _ ha).2 (h.inj b' b2 k c c' (hal _ ha).1 hab2 hm' hm2)
    · intro b' y hy
      rw [look_cons] at hy
      split at hy
      · cases hy; trivial
      · have := hL.nx b' y hy
        cases y with
        | nest _ _ _ cs' hole' =>
          intro g' c' hm' i1 c1 hc1 hh1
          obtain ⟨y, hy, hN⟩ := this g' c' hm' i1 c1 hc1 hh1
          exact ⟨y, hy, hN.mono (fun _ _ e => e) (Keeps.refl _ _) fun g2 n2 c2 _ hg => ⟨.inl hg, rfl⟩⟩
        | _ => trivial
  refine ⟨_, hN, { h.kill hl2 with nst := ⟨_, hN⟩ }, fun _ _ _ e => .inl e, ls, n, rfl, hlen, hpos, ?_⟩
  rcases hx with ⟨g2, cap2, hm2, hnc, rfl⟩ | ⟨rfl, rfl⟩
  · obtain ⟨g', cap', cur', q1, q2, q3, q4, q5, q6, q7, q8, q9, q10⟩ := (h.hst b2 _ hl2).real hm2
    rw [hm2] at q1; cases q1
    exact .inr ⟨g2, cap2, cur', rfl, .inr ⟨⟨cap2, hm2⟩, rfl, rfl⟩, hnc, q4, q3, q5, q7⟩
  · exact .inl ⟨rfl, rfl⟩

/-- Lists that are taken whole. -/
theorem takeAll_sound {id : Nat} {e2 : TypeId} {s2 : Nat} {K : V → ST → Prop} (hpos : 0 < s2) : ∀ (cs : List V) (xs : List Value) (i0 : Nat) (k : List V → RM) (st : ST) (L : Nat → Nat → Nat → Prop), Rel O w0 F0 M0 D U F m sz tm st a w → NOK O F m st w.heap L → cs.length = xs.length →
    (∀ (i : Nat) (c : V) (x : Value), cs[i]? = some c → xs[i]? = some x → RV m F w.heap c x) → (takeAll e2 s2 cs k).go st K →
    ∃ st' L' cs', Rel O w0 F0 M0 D U F m sz tm st' a w ∧ NOK O F m st' w.heap L' ∧ (∀ g b j, L g b j → L' g b j) ∧ cs'.length = xs.length ∧
      (∀ (i : Nat) (c : V) (x : Value), cs'[i]? = some c → xs[i]? = some x → NIn F w.heap L' id (i0 + i) e2 s2 x c) ∧ (k cs').go st' K
  | [], xs, i0, k, st, L, h, hL, hl, hv, hg => by
    cases xs with
    | nil => exact ⟨st, L, [], h, hL, fun _ _ _ e => e, rfl, fun i c x hc hx => by simp at hc, hg⟩
    | cons x xs => simp at hl
  | c :: cs, [], i0, k, st, L, h, hL, hl, hv, hg => by simp at hl
  | c :: cs, x :: xs, i0, k, st, L, h, hL, hl, hv, hg => by
    have h0 := hv 0 c x rfl rfl
    have hl' : cs.length = xs.length := by simpa using hl
    have hv' : ∀ (i : Nat) (c : V) (x : Value), cs[i]? = some c → xs[i]? = some x → RV m F w.heap c x := fun i c x hc hx => hv (i + 1) c x (by simpa using hc) (by simpa using hx)
    have fin : ∀ (st1 : ST) (L1 : Nat → Nat → Nat → Prop) (c1 : V), Rel O w0 F0 M0 D U F m sz tm st1 a w → NOK O F m st1 w.heap L1 → (∀ g b j, L g b j → L1 g b j) → NIn F w.heap L1 id i0 e2 s2 x c1 → (takeAll e2 s2 cs fun cs => k (c1 :: cs)).go st1 K →
        ∃ st' L' cs', Rel O w0 F0 M0 D U F m sz tm st' a w ∧ NOK O F m st' w.heap L' ∧ (∀ g b j, L g b j → L' g b j) ∧ cs'.length = (x :: xs).length ∧
          (∀ (i : Nat) (c : V) (y : Value), cs'[i]? = some c → (x :: xs)[i]? = some y → NIn F w.heap L' id (i0 + i) e2 s2 y c) ∧ (k cs').go st' K := by
      intro st1 L1 c1 h1 hL1 hLL hN hg1
      obtain ⟨st', L', cs', r1, r2, r3, r4, r5, r6⟩ := takeAll_sound hpos cs xs (i0 + 1) _ st1 L1 h1 hL1 hl' hv' hg1
      refine ⟨st', L', c1 :: cs', r1, r2, fun g b j e => r3 g b j (hLL g b j e), by simp [r4], fun i c y hc hy => ?_, r6⟩
      cases i with
      | zero =>
        simp at hc hy
        subst hc hy
        exact hN.mono (fun _ _ e => e) (Keeps.refl _ _) fun g _ _ _ hg => ⟨r3 _ _ _ hg, rfl⟩
      | succ i =>
        have := r5 i c y (by simpa using hc) (by simpa using hy)
        rwa [show i0 + 1 + i = i0 + (i + 1) by omega] at this
    cases c with
    | osl b n =>
      simp only [takeAll, RM.go] at hg
      cases hlk : look st b with
      | none => simp [hlk] at hg
      | some y =>
        rw [hlk] at hg
        cases y with
        | row e' s' ls p =>
          cases p with
          | succ p => simp [RM.go] at hg
          | zero =>
            simp only at hg
            split at hg
            · next he =>
              obtain ⟨rfl, rfl⟩ := he
              simp only [RM.go] at hg
              obtain ⟨⟨hlen, _⟩, hg⟩ := hg
              obtain ⟨L1, q1, q2, q3, q4⟩ := h.pend (id := id) (i := i0) hlk hlen hpos h0 hL
              exact fin _ L1 _ q2 q1 q3 q4 hg
            · simp [RM.go] at hg
        | var cs f => simp [RM.go] at hg
        | loop r => simp [RM.go] at hg
        | mark p => simp [RM.go] at hg
        | dead => simp [RM.go] at hg
        | nest e e2 s2 cs1 hole => simp [RM.go] at hg
    | v y =>
      simp only [takeAll] at hg
      split at hg
      · next e1 => simp at e1
      · next e1 =>
        simp only [V.v.injEq] at e1
        subst e1
        have h0 : x = .slice none 0 0 := h0
        exact fin st L (.sl [] 0) h hL (fun _ _ _ e => e) ⟨[], 0, rfl, by simp, hpos, .inl ⟨h0, rfl⟩⟩ hg
      · simp [RM.go] at hg
    | top => simp [takeAll, RM.go] at hg
    | agg cs1 => simp [takeAll, RM.go] at hg
    | tup cs1 => simp [takeAll, RM.go] at hg
    | sl cs1 n => simp [takeAll, RM.go] at hg
    | fptr cs1 => simp [takeAll, RM.go] at hg
    | fn g caps => simp [takeAll, RM.go] at hg
    | box b off => simp [takeAll, RM.go] at hg
    | yld b => simp [takeAll, RM.go] at hg
    | ag cs1 => simp [takeAll, RM.go] at hg

theorem Rel.ev (h : Rel O w0 F0 M0 D U F m sz tm st a w) (x : Operand) : RV m F w.heap (ev tm x) (a.eval x) := by
  cases x with
  | tmp t => exact h.htm t
  | const v => exact rfl
  | func f => exact ⟨#[], rfl, rfl, fun i c y hc => by simp at hc⟩
  | global g => exact trivial

end
end Go.Ev
/- A run of the model follows the evaluator: the single operations. -/
set_option linter.unusedVariables false
set_option linter.unusedSimpArgs false
namespace Go.Ev
open Go.RowKit

section
variable {P : Program} {w : World}

theorem sz_run {t : TypeId} {n : Nat} (h : szOf P t = some n) : (sizeOf t).run P w = .ok n w := by
  simp only [szOf] at h
  cases hi : P.info? t with
  | none => simp [hi] at h
  | some i => simp [hi] at h; simp [sizeOf, typeInfo, hi, h]

theorem isAgg_run {t : TypeId} {b : Bool} (h : aggOf P t = some b) : (isAgg t).run P w = .ok b w := by
  simp only [aggOf] at h
  cases hu : P.underlying t with
  | none => simp [hu] at h
  | some d =>
    simp only [hu, Option.map_some, Option.some.injEq] at h
    simp only [isAgg, Sem.run_bind, run_underlying hu, Result.andThen_ok]
    cases d <;> simp_all

theorem zero_run {t : TypeId} {z : List V} (h : zeroOf P t = some z) : ∃ v, (zeroValue t).run P w = .ok v w ∧ z = v.cells.toList.map V.v ∧ (∀ x ∈ v.cells.toList, x.oneCell' = true) ∧
    ∃ i, P.info? t = some i ∧ i.zero = some v ∧ v.cells.size = i.size := by
  simp only [zeroOf] at h
  cases hi : P.info? t with
  | none => simp [hi] at h
  | some i =>
    rw [hi] at h
    cases hz : i.zero with
    | none => simp [hz] at h
    | some v =>
      simp only [hz] at h
      split at h
      · next hc =>
        simp only [Bool.and_eq_true, List.all_eq_true, beq_iff_eq] at hc
        cases h
        exact ⟨v, by simp [zeroValue, typeInfo, hi, hz], rfl, hc.1, i, rfl, hz, hc.2⟩
      · cases h

theorem load_agg_run {t : TypeId} {n g off : Nat} (ha : aggOf P t = some true) (hs : szOf P t = some n) (hl : off + n ≤ (cellsAt w.heap g).length) :
    (Instr.loadAt t (.pointer (some ⟨g, off, none⟩))).run P w = .ok (.agg (((cellsAt w.heap g).drop off).take n).toArray) w := by
  have hc := run_loadCells_list (P := P) w ⟨g, off, none⟩ (((cellsAt w.heap g).drop off).take n) (by
    intro j v hj
    rw [Addr.add_lit]
    refine cell?_at ?_
    rw [List.getElem?_take] at hj
    split at hj
    · rwa [List.getElem?_drop] at hj
    · cases hj)
  have hlen : (((cellsAt w.heap g).drop off).take n).length = n := by rw [List.length_take, List.length_drop]; omega
  rw [hlen] at hc
  simp only [Instr.loadAt, Instr.sureAddr, loadVar, Sem.run_bind, Sem.run_pure, Result.andThen_ok, isAgg_run ha, if_true, sz_run hs, hc]

theorem load_one_run {t : TypeId} {g off : Nat} {v : Value} (ha : aggOf P t = some false) (hc : (cellsAt w.heap g)[off]? = some v) :
    (Instr.loadAt t (.pointer (some ⟨g, off, none⟩))).run P w = .ok v w := by
  simp [Instr.loadAt, Instr.sureAddr, loadVar, isAgg_run ha, cell?_at hc]

theorem takeR_elim {t : TypeId} {cs : List V} {off : Nat} {k : V → RM} {st : ST} {K : V → ST → Prop} (h : (takeR P t cs off k).go st K) :
    (∃ n, aggOf P t = some true ∧ szOf P t = some n ∧ 0 < n ∧ off + n ≤ cs.length ∧ (k (.agg ((cs.drop off).take n))).go st K) ∨
    (aggOf P t = some false ∧ off < cs.length ∧ (k ((cs[off]?).getD .top)).go st K) := by
  unfold takeR at h
  split at h
  · next ha hs => obtain ⟨h1, h2⟩ := h; exact .inl ⟨_, ha, hs, Nat.succ_pos _, h1, h2⟩
  · next ha hs => obtain ⟨h1, h2⟩ := h; exact .inr ⟨ha, h1, h2⟩
  · cases h

/-- A fence that lets everything in. -/
structure Wide (FF : Fence) : Prop where
  fn : ∀ f, FF.fn f
  dep : FF.depth = none
  al : FF.alive = false

/-- An operation in whatever frame. -/
def _root_.Go.Oper.wpX (P : Program) (o : Oper) (a : Act) (w : World) (next : Act → World → Prop) (Q : Exit → Act → World → Prop) : Prop := ∀ FF : Fence, Wide FF → o.wpIn FF 0 P a w next Q

theorem not_defer {o : Oper} {ρ : Operand → Value} {w w' : World} {n : Next} (h : (execOp ρ o).run P w = .ok n w') (hn : ∀ d, n ≠ .defer d) : ∀ c, o.op ≠ .defer c := by
  intro c hc
  simp only [execOp, hc, Sem.run_bind] at h
  generalize (resolve ρ c o.type).run P w = r at h
  cases r with
  | ok d w1 => simp [Result.andThen] at h; exact hn _ h.1.symm
  | halt x w1 => simp [Result.andThen] at h

theorem fin_value {o : Oper} {a : Act} {next : Act → World → Prop} {Q : Exit → Act → World → Prop} {v : Value} {w' : World}
    (h : (execOp a.eval o).run P w = .ok (.value v) w') (hn : next (a.put o.dst v) w') : o.wpX P a w next Q := by
  intro FF hW
  refine ⟨fun f _ => hW.fn f, ?_⟩
  rw [Oper.semAt_eq _ _ _ (not_defer h (fun d e => by cases e)), h]; exact hn

theorem fin_skip {o : Oper} {a : Act} {next : Act → World → Prop} {Q : Exit → Act → World → Prop} {w' : World}
    (h : (execOp a.eval o).run P w = .ok .skip w') (hn : next (a.put o.dst undef) w') : o.wpX P a w next Q := by
  intro FF hW
  refine ⟨fun f _ => hW.fn f, ?_⟩
  rw [Oper.semAt_eq _ _ _ (not_defer h (fun d e => by cases e)), h]; exact hn

end

section
variable (P : Program) (C : FuncId → Option Con)

/-- The operation is done as the evaluator says. -/
def OpOK (o : Oper) : Prop := ∀ {O : Nat → Prop} {w0 : World} {F0 : FZ} {M0 : MP} {D : List Deferred} {U : Nat → Prop} {F : FZ} {m : MP} {sz : Nat} {tm : TM} {st : ST} {a : Act} {w : World} {id : Nat} {K : V → ST → Prop}
    {next : Act → World → Prop} {Q : Exit → Act → World → Prop},
  Rel O w0 F0 M0 D U F m sz tm st a w → U id → okDst sz o.dst = true → (opR P C id (ev tm) o.op).go st K →
  (∀ F' m' v st' a' w', Rel O w0 F0 M0 D (fun b => U b ∧ b ≠ id) F' m' sz (putT tm o.dst v) st' a' w' → K v st' → next a' w') → o.wpX P a w next Q

variable {P C}

section
variable {O : Nat → Prop} {w0 : World} {F0 : FZ} {M0 : MP} {D : List Deferred} {U : Nat → Prop} {F : FZ} {m : MP} {sz : Nat} {tm : TM} {st : ST} {a : Act} {w w' : World} {id : Nat} {K : V → ST → Prop}
    {next : Act → World → Prop} {Q : Exit → Act → World → Prop} {o : Oper}

/-- A value and nothing else. -/
theorem done_pure (h : Rel O w0 F0 M0 D U F m sz tm st a w) (hd : okDst sz o.dst = true)
    (hn : ∀ F' m' v st' a' w', Rel O w0 F0 M0 D (fun b => U b ∧ b ≠ id) F' m' sz (putT tm o.dst v) st' a' w' → K v st' → next a' w')
    {c : V} {x : Value} (hr : (execOp a.eval o).run P w = .ok (.value x) w) (hx : RV m F w.heap c x) (hk : (RM.retF c).go st K) : o.wpX P a w next Q := by
  rw [RM.retF_eq] at hk
  exact fin_value hr (hn F m c st _ _ ((h.weakU fun _ e => e.1).put hd hx) hk)

end

theorem RC_int {F : FZ} {H : Array Obj} {v : Value} : RC F H (.v v) v := rfl

theorem move_ok {o : Oper} {x : Operand} (ho : o.op = .move x ∨ o.op = .assign x) : OpOK P C o := by
  intro O w0 F0 M0 D U F m sz tm st a w id K next Q h hU hd hg hn
  have hg' : (RM.retF (ev tm x)).go st K := by rcases ho with ho | ho <;> simpa [ho, opR] using hg
  exact done_pure h hd hn (x := a.eval x) (by rcases ho with ho | ho <;> simp [execOp, ho]) (h.ev x) hg'

theorem pick_ok {o : Oper} {c x y : Operand} (ho : o.op = .pick c x y) : OpOK P C o := by
  intro O w0 F0 M0 D U F m sz tm st a w id K next Q h hU hd hg hn
  have hc := h.ev c
  simp only [ho, opR] at hg
  split at hg
  · next b hb =>
    rw [hb] at hc
    have hc' : a.eval c = .bool b := hc
    cases b with
    | true => exact done_pure h hd hn (x := a.eval x) (by simp [execOp, ho, hc', asBool]) (h.ev x) hg
    | false => exact done_pure h hd hn (x := a.eval y) (by simp [execOp, ho, hc', asBool]) (h.ev y) hg
  · cases hg

theorem intBin_ok {op : BinOp} {k j : IntKind} {x y : Int} {st : ST} {K : V → ST → Prop} (hk : k = j ∨ shiftB op = true) (h : (intBin op k x y).go st K) (t : TypeId) (w : World) :
    ∃ v, (binOp op t (.int k x) (.int j y)).run P w = .ok v w ∧ K (.v v) st := by
  by_cases hs : shiftB op = true
  · cases op <;> simp only [shiftB, Bool.false_eq_true] at hs
    · simp only [intBin, RM.go] at h
      obtain ⟨h0, h⟩ := h
      refine ⟨_, ?_, h⟩
      show (Op.shift .shl k x j y).run P w = _
      unfold Op.shift
      rw [if_neg (Int.not_lt.2 h0)]
      rfl
    · simp only [intBin, RM.go] at h
      obtain ⟨h0, h⟩ := h
      refine ⟨_, ?_, h⟩
      show (Op.shift .shr k x j y).run P w = _
      unfold Op.shift
      rw [if_neg (Int.not_lt.2 h0)]
      rfl
  · have hk : k = j := hk.resolve_right hs
    subst hk
    cases op <;> simp only [shiftB, not_true] at hs <;> simp only [intBin, RM.go] at h <;> first
      | exact ⟨_, by simp [binOp, Op.intArith, Op.intCmp], h⟩
      | (obtain ⟨h0, h⟩ := h; exact ⟨_, by simp [binOp, Op.intDiv, h0], h⟩)
      | exact h.elim

theorem eqGuard_int {op : BinOp} {t : TypeId} {x y : Operand} {k : IntKind} {n : Int} {v : Value} (w : World) : (eqGuard op t x y (.int k n) v).run P w = .ok () w := by
  rw [eqGuard_at_int]; rfl

theorem unOp_ok {o : Oper} {op : UnOp} {t : TypeId} {x : Operand} (ho : o.op = .unOp op t x) : OpOK P C o := by
  intro O w0 F0 M0 D U F m sz tm st a w id K next Q h hU hd hg hn
  have hx := h.ev x
  simp only [ho, opR] at hg
  split at hg
  · next b hb =>
    rw [hb] at hx
    have hx' : a.eval x = .bool b := hx
    exact done_pure h hd hn (c := .v (.bool (!b))) (x := .bool (!b)) (by simp [execOp, ho, hx', Op.unary]) rfl hg
  · next k n hb =>
    rw [hb] at hx
    have hx' : a.eval x = .int k n := hx
    exact done_pure h hd hn (c := .v (.int k (k.wrap (0 - n)))) (x := .int k (k.wrap (0 - n))) (by simp [execOp, ho, hx', Op.unary, Op.intArith]) rfl hg
  · cases hg

theorem convert_ok {o : Oper} {s d : TypeId} {x : Operand} (ho : o.op = .convert s d x) : OpOK P C o := by
  intro O w0 F0 M0 D U F m sz tm st a w id K next Q h hU hd hg hn
  have hx := h.ev x
  simp only [ho, opR] at hg
  split at hg
  · next k k' n hs hk hb =>
    rw [hb] at hx
    have hx' : a.eval x = .int k' n := hx
    simp only [intOf?] at hk
    split at hk
    · next k0 hu =>
      cases hk
      obtain ⟨ds, hds⟩ := Option.isSome_iff_exists.1 hs
      refine done_pure h hd hn (c := .v (.int k (k.wrap n))) (x := .int k (k.wrap n)) ?_ rfl hg
      simp [execOp, ho, hx', convert, run_underlying hds, run_underlying hu, Conv.intToInt]
    · cases hk
  · cases hg

theorem fieldAddr_ok {o : Oper} {s : TypeId} {x : Operand} {f : Nat} (ho : o.op = .fieldAddr s x f) : OpOK P C o := by
  intro O w0 F0 M0 D U F m sz tm st a w id K next Q h hU hd hg hn
  have hx := h.ev x
  have field : ∀ {i : Nat} {t : TypeId}, fieldAt? P s f = some (i, t) → ∃ fs x0, P.underlying s = some (.struct fs) ∧ fs[f]? = some x0 ∧ x0.offset = i ∧ x0.type = t := by
    intro i t hf
    simp only [fieldAt?] at hf
    split at hf
    · next fs hu =>
      cases h0 : fs[f]? with
      | none => simp [h0] at hf
      | some x0 => simp [h0] at hf; exact ⟨fs, x0, hu, h0, hf.1, hf.2⟩
    · cases hf
  simp only [ho, opR] at hg
  split at hg
  · next b off i t hb hf =>
    split at hg
    · next n hs =>
      rw [hb] at hx
      obtain ⟨g, c, hm, hx'⟩ := hx
      obtain ⟨fs, x0, hu, h0, h1, h2⟩ := field hf
      subst h1 h2
      refine done_pure h hd hn (c := .box b (off + x0.offset)) (x := .pointer (some ⟨g, off + x0.offset, none⟩)) ?_ ⟨g, c, hm, rfl⟩ hg
      simp [execOp, ho, hx', Instr.fieldAt, run_underlying hu, h0, Instr.sureAddr, fieldPlace, sz_run hs, Addr.add_lit]
    · cases hg
  · next cs i t hb hf =>
    split at hg
    · next n hs =>
      rw [hb] at hx
      obtain ⟨g, off, hx', hF, hc⟩ := hx
      obtain ⟨fs, x0, hu, h0, h1, h2⟩ := field hf
      subst h1 h2
      refine done_pure h hd hn (c := .fptr (cs.drop x0.offset)) (x := .pointer (some ⟨g, off + x0.offset, none⟩)) ?_ ⟨g, off + x0.offset, rfl, ?_, ?_⟩ hg
      · simp [execOp, ho, hx', Instr.fieldAt, run_underlying hu, h0, Instr.sureAddr, fieldPlace, sz_run hs, Addr.add_lit]
      · intro j hj
        rw [List.length_drop] at hj
        have := hF (x0.offset + j) (by omega)
        rwa [← Nat.add_assoc] at this
      · have := RCs_drop hc x0.offset
        rw [List.drop_take, List.drop_drop] at this
        rwa [List.length_drop]
    · cases hg
  · cases hg

theorem takeR_clean {t : TypeId} {cs : List V} {i : Nat} {st : ST} {K : V → ST → Prop} {F : FZ} {w : World} {xs : List Value} (h : (takeR P t cs i .retF).go st K) (hc : RCs F w.heap true cs xs) :
    ∃ c x, RC F w.heap c x ∧ (RM.retF c).go st K ∧ (∀ g off, ((cellsAt w.heap g).drop off).take xs.length = xs → (Instr.loadAt t (.pointer (some ⟨g, off + i, none⟩))).run P w = .ok x w) ∧
      (part t xs.toArray i).run P w = .ok x w := by
  have hl := RCs_length hc
  rcases takeR_elim h with ⟨n, ha, hs, hn0, hi, hk⟩ | ⟨ha, hi, hk⟩
  · have hex : ((xs.drop i).take n).toArray = xs.toArray.extract i (i + n) := by
      apply Array.ext'
      simp [Array.toList_extract, List.extract]
    refine ⟨.agg ((cs.drop i).take n), .agg ((xs.drop i).take n).toArray, ⟨_, rfl, by simpa using RCs_take (RCs_drop hc i) n⟩, hk, ?_, ?_⟩
    · intro g off he
      have hlen : off + i + n ≤ (cellsAt w.heap g).length := by
        have := congrArg List.length he
        rw [List.length_take, List.length_drop] at this
        omega
      rw [load_agg_run ha hs hlen]
      have e2 : ((cellsAt w.heap g).drop (off + i)).take n = (xs.drop i).take n := by
        conv => rhs; rw [← he]
        rw [List.drop_take, List.take_take, List.drop_drop]
        congr 1
        omega
      rw [e2]
    · simp only [part, Sem.run_bind, isAgg_run ha, Result.andThen_ok, if_true, sz_run hs, Sem.run_pure, hex]
  · have hix : i < xs.length := by omega
    have hx : xs[i]? = some xs[i] := List.getElem?_eq_getElem hix
    have hci : cs[i]? = some cs[i] := by simp [hi]
    rw [hci] at hk
    refine ⟨_, xs[i], ((RCs_iff.1 hc).2 i _ _ hci hx).1, hk, ?_, ?_⟩
    · intro g off he
      refine load_one_run ha ?_
      have : (((cellsAt w.heap g).drop off).take xs.length)[i]? = some xs[i] := by rw [he]; exact hx
      rw [List.getElem?_take, if_pos hix, List.getElem?_drop] at this
      exact this
    · simp [part, isAgg_run ha, hx]

theorem load_sound {O : Nat → Prop} {w0 : World} {F0 : FZ} {M0 : MP} {D : List Deferred} {U : Nat → Prop} {F : FZ} {m : MP} {sz : Nat} {tm : TM} {st : ST} {a : Act} {w : World} {K : V → ST → Prop} {t : TypeId} {x : Operand}
    (h : Rel O w0 F0 M0 D U F m sz tm st a w) (hg : (loadR P t (ev tm x)).go st K) :
    ∃ F' st' c v, Rel O w0 F0 M0 D U F' m sz tm st' a w ∧ (∀ g j, F g j → F' g j) ∧ (Instr.loadAt t (a.eval x)).run P w = .ok v w ∧ RV m F' w.heap c v ∧ K c st' := by
  have hx := h.ev x
  unfold loadR at hg
  split at hg
  · next cs hb =>
    rw [hb] at hx
    obtain ⟨g, off, hx', hF, hc⟩ := hx
    obtain ⟨c, v, hv, hk, hrun, _⟩ := takeR_clean hg hc
    rw [RM.retF_eq] at hk
    have := hrun g off (by rw [← RCs_length hc])
    rw [Nat.add_zero] at this
    exact ⟨F, st, c, v, h, fun _ _ e => e, by rw [hx']; exact this, RV.of_RC hv, hk⟩
  · next b off hb =>
    rw [hb] at hx
    obtain ⟨g, c0, hm, hx'⟩ := hx
    simp only [RM.go] at hg
    cases hl : look st b with
    | none => simp [hl] at hg
    | some y =>
      rw [hl] at hg
      cases y with
      | nest e e2 s2 cs hole => simp [loadX, RM.go] at hg
      | row e size cs p =>
        simp only [loadX] at hg
        obtain ⟨g', cap, cur, h1, h2, h3, h4, h5, h6, h7, h8, h9, h10⟩ := RBx.real (h.hst b _ hl) hm
        rw [hm] at h1; cases h1
        obtain ⟨c, v, hv, hk, hrun, _⟩ := takeR_clean hg h7
        rw [RM.retF_eq] at hk
        have := hrun g 0 (by rw [← RCs_length h7, cellsAt_of h3, List.drop_zero])
        rw [Nat.zero_add] at this
        exact ⟨F, st, c, v, h, fun _ _ e => e, by rw [hx']; exact this, RV.of_RC hv, hk⟩
      | var cs f =>
        simp only [loadX] at hg
        obtain ⟨g', c, arr, ty, h1, h2, h3, h4, h5, h6⟩ := h.hst b _ hl
        rw [hm] at h1; cases h1
        have hca : cellsAt w.heap g = arr.toList := cellsAt_of h3
        rcases takeR_elim hg with ⟨n, ha, hs, hn0, hi, hk⟩ | ⟨ha, hi, hk⟩
        · have hlen : off + n ≤ (cellsAt w.heap g).length := by rw [hca, ← h4.1]; exact hi
          have hcell : ∀ (i : Nat) (c : V) (x : Value), ((cs.drop off).take n)[i]? = some c → (((cellsAt w.heap g).drop off).take n)[i]? = some x → RV m F w.heap c x ∧ x.oneCell' = true := by
            intro i c x hc hx
            rw [List.getElem?_take] at hc hx
            split at hc
            · next hi' =>
              rw [if_pos hi'] at hx
              rw [List.getElem?_drop] at hc hx
              rw [hca] at hx
              exact h4.2 _ c x hc hx
            · cases hc
          have hll : ((cs.drop off).take n).length = (((cellsAt w.heap g).drop off).take n).length := by
            rw [List.length_take, List.length_take, List.length_drop, List.length_drop, hca, h4.1]
          simp only at hk
          split at hk
          · next hkp =>
            simp only [ownAg, Bool.and_eq_true, List.all_eq_true] at hkp
            refine ⟨F, st, .ag ((cs.drop off).take n), .agg (((cellsAt w.heap g).drop off).take n).toArray, h, fun _ _ e => e, by rw [hx']; exact load_agg_run ha hs hlen, ?_, hk⟩
            refine ⟨_, rfl, by simpa using hll, fun i c x hc hx => ?_⟩
            obtain ⟨q1, q2⟩ := hcell i c x hc (by simpa using hx)
            refine ⟨?_, q2⟩
            have hne := hkp.2 c (List.mem_of_getElem? hc)
            cases c <;> first | exact q1 | simp [notFn] at hne
          simp only [fzs] at hk
          obtain ⟨F1, st1, cs1, r1, e1, r2, r3, _⟩ := mapRM_sound (fz_sound 4) _ (((cellsAt w.heap g).drop off).take n) _ st F K h hll (fun i c x hc hx => (hcell i c x hc hx).1) hk
          refine ⟨F1, st1, .agg cs1, .agg (((cellsAt w.heap g).drop off).take n).toArray, r1, e1, by rw [hx']; exact load_agg_run ha hs hlen, RV.of_RC ⟨_, rfl, RCs_one r2 ?_⟩, r3⟩
          intro x hx
          obtain ⟨i, hi'⟩ := List.getElem?_of_mem hx
          have hi2 : i < ((cs.drop off).take n).length := by rw [hll]; exact (List.getElem?_eq_some_iff.1 hi').1
          exact (hcell i _ x (List.getElem?_eq_getElem hi2) hi').2
        · have hci : cs[off]? = some cs[off] := by simp [hi]
          have hcx : arr.toList[off]? = some (arr.toList[off]'(by rw [← h4.1]; exact hi)) := by rw [List.getElem?_eq_getElem]
          rw [hci] at hk
          simp only [Option.getD_some] at hk
          have hv := (h4.2 off _ _ hci hcx).1
          have hone := (h4.2 off _ _ hci hcx).2
          have hk' : K cs[off] st := by
            revert hk hv hone
            generalize cs[off] = cc
            intro hk hv hone
            cases cc with
            | agg cs' =>
              obtain ⟨ar, he, _⟩ := hv
              rw [he] at hone
              simp [Value.oneCell'] at hone
            | _ => exact hk
          exact ⟨F, st, _, _, h, fun _ _ e => e, by rw [hx']; exact load_one_run ha (by rw [hca]; exact hcx), hv, hk'⟩
      | loop r => simp [loadX, RM.go] at hg
      | mark p => simp [loadX, RM.go] at hg
      | dead => simp [loadX, RM.go] at hg
  · cases hg

theorem load_ok {o : Oper} {t : TypeId} {x : Operand} (ho : o.op = .load t x) : OpOK P C o := by
  intro O w0 F0 M0 D U F m sz tm st a w id K next Q h hU hd hg hn
  rw [ho] at hg
  have plain : (loadR P t (ev tm x)).go st K → o.wpX P a w next Q := by
    intro hg
    obtain ⟨F', st', c, v, hR, _, hrun, hv, hk⟩ := load_sound h hg
    refine fin_value (v := v) (w' := w) ?_ (hn F' m c st' _ _ ((hR.weakU fun _ e => e.1).put hd hv) hk)
    simp [execOp, ho, hrun]
  have hx := h.ev x
  simp only [opR] at hg
  split at hg
  · next b off hb =>
    simp only [RM.go] at hg
    cases hl : look st b with
    | none => simp [hl] at hg
    | some y =>
      rw [hl] at hg
      have other : (loadX P t off y).go st K → o.wpX P a w next Q := by
        intro hg
        refine plain ?_
        rw [hb]
        unfold loadR
        simp only [RM.go]
        rw [hl]
        exact hg
      cases y with
      | nest e e2 s2 cs hole =>
        simp only at hg
        split at hg
        · next ha =>
          simp only [RM.go] at hg
          obtain ⟨⟨ls, n⟩, ⟨hc, hno⟩, hk⟩ := hg
          rw [hb] at hx
          obtain ⟨g, cap, hm, hx'⟩ := hx
          obtain ⟨m', v, hR, hcell, hv⟩ := h.take hU hl hm hc hno
          refine fin_value (v := v) (w' := w) ?_ (hn F m' _ _ _ _ (hR.put hd hv) hk)
          simp [execOp, ho, hx', load_one_run ha hcell]
        · cases hg
      | row e size cs p => exact other hg
      | var cs f => exact other hg
      | loop r => exact other hg
      | mark p => exact other hg
      | dead => exact other hg
  · exact plain hg

theorem field_ok {o : Oper} {s : TypeId} {x : Operand} {f : Nat} (ho : o.op = .field s x f) : OpOK P C o := by
  intro O w0 F0 M0 D U F m sz tm st a w id K next Q h hU hd hg hn
  have hx := h.ev x
  simp only [ho, opR] at hg
  split at hg
  · next cs i t hb hf =>
    rw [hb] at hx
    obtain ⟨arr, hx', hc⟩ := hx
    obtain ⟨c, v, hv, hk, _, hrun⟩ := takeR_clean hg hc
    simp only [fieldAt?] at hf
    split at hf
    · next fs hu =>
      cases h0 : fs[f]? with
      | none => simp [h0] at hf
      | some x0 =>
        simp [h0] at hf
        obtain ⟨h1, h2⟩ := hf
        subst h1 h2
        refine done_pure h hd hn (x := v) ?_ (RV.of_RC hv) hk
        rw [Array.toArray_toList] at hrun
        simp [execOp, ho, hx', Instr.field, run_underlying hu, h0, asAgg, hrun]
    · cases hf
  · cases hg

theorem makeFunc_ok {o : Oper} {fn : Fn} {first caps : Array Operand} (ho : o.op = .makeFunc fn first caps) : OpOK P C o := by
  intro O w0 F0 M0 D U F m sz tm st a w id K next Q h hU hd hg hn
  simp only [ho, opR] at hg
  split at hg
  · next g hf =>
    have hf' : first = #[] := by cases first; simp_all
    subst hf'
    split at hg
    · next hall =>
      refine done_pure h hd hn (c := .fn g (caps.toList.map (ev tm))) (x := .func (.func g) #[] (caps.map a.eval)) (by simp [execOp, ho, Instr.makeFunc]) ⟨_, rfl, by simp, fun i c y hc hy => ?_⟩ hg
      rw [Array.toList_map, List.getElem?_map] at hy
      rw [List.getElem?_map] at hc
      cases hx : caps.toList[i]? with
      | none => simp [hx] at hc
      | some x =>
        simp only [hx, Option.map_some, Option.some.injEq] at hc hy
        subst hc hy
        have hv := h.ev x
        have hne : notFn (ev tm x) = true := (List.all_eq_true.1 hall) _ (List.mem_map.2 ⟨x, List.mem_of_getElem? hx, rfl⟩)
        revert hv hne
        generalize ev tm x = c
        intro hv hne
        cases c <;> first | exact hv | simp [notFn] at hne
    · cases hg
  · cases hg

theorem extract_ok {o : Oper} {x : Operand} {i : Nat} (ho : o.op = .extract x i) : OpOK P C o := by
  intro O w0 F0 M0 D U F m sz tm st a w id K next Q h hU hd hg hn
  have hx := h.ev x
  simp only [ho, opR] at hg
  split at hg
  · next vs hb =>
    rw [hb] at hx
    obtain ⟨arr, hx', hc⟩ := hx
    split at hg
    · next c hci =>
      have hlen := RCs_length hc
      have hi : i < vs.length := (List.getElem?_eq_some_iff.1 hci).1
      have hxi : arr.toList[i]? = some (arr.toList[i]'(by omega)) := List.getElem?_eq_getElem (by omega)
      have hv := ((RCs_iff.1 hc).2 i c _ hci hxi).1
      refine done_pure h hd hn (x := arr.toList[i]'(by omega)) ?_ (RV.of_RC hv) hg
      have hxa : arr[i]? = some (arr.toList[i]'(by omega)) := by rw [← hxi]; simp
      simp [execOp, ho, hx', Instr.extract, hxa]
    · cases hg
  · cases hg

theorem nilCheck_ok {o : Oper} {x : Operand} (ho : o.op = .nilCheck x) : OpOK P C o := by
  intro O w0 F0 M0 D U F m sz tm st a w id K next Q h hU hd hg hn
  have hx := h.ev x
  simp only [ho, opR] at hg
  split at hg
  · next b off hb =>
    rw [hb] at hx
    have hx0 := hx
    obtain ⟨g, c, hm, hx'⟩ := hx
    exact done_pure h hd hn (c := .box b off) (x := a.eval x) (by simp [execOp, ho, hx']) hx0 hg
  · next cs hb =>
    rw [hb] at hx
    have hx0 := hx
    obtain ⟨g, off, hx', _⟩ := hx
    exact done_pure h hd hn (c := .fptr cs) (x := a.eval x) (by simp [execOp, ho, hx']) hx0 hg
  · next g caps hb =>
    rw [hb] at hx
    have hx0 := hx
    obtain ⟨arr, hx', _⟩ := hx
    exact done_pure h hd hn (c := .fn g caps) (x := a.eval x) (by simp [execOp, ho, hx']) hx0 hg
  · cases hg

theorem run_builtin {b : Builtin} {args : Array Operand} {ts : Array TypeId} {o : Oper} {a : Act} {w : World} (ho : o.op = .call { callee := .builtin b, args := args, argTypes := ts }) :
    (execOp a.eval o).run P w = (builtin b ts o.type (args.map fun | .const _ => true | _ => false) (args.map a.eval)).run P w := by
  simp only [execOp, ho, resolve, Sem.run_bind, Sem.run_pure, Result.andThen_ok, invoke]
  rfl

theorem len_ok {o : Oper} {x : Operand} {ts : Array TypeId} (ho : o.op = .call { callee := .builtin .len, args := #[x], argTypes := ts }) : OpOK P C o := by
  intro O w0 F0 M0 D U F m sz tm st a w id K next Q h hU hd hg hn
  have hx := h.ev x
  simp only [ho, opR] at hg
  split at hg
  · next t hts =>
    have hts' : ts = #[t] := by cases ts; simp_all
    subst hts'
    simp only [lenR] at hg
    have run : ∀ {n : Int}, (Builtin.len_ #[t] o.type #[a.eval x]).run P w = .ok (.int .i64 n) w → (execOp a.eval o).run P w = .ok (.value (.int .i64 n)) w := by
      intro n hr
      rw [run_builtin ho]
      simp [builtin, hr]
    split at hg
    · next cs n e hb he =>
      rw [hb] at hx
      obtain ⟨ad, cap, hx', _⟩ := hx
      have hu : P.underlying t = some (.slice e) := by simp only [elemOf?] at he; split at he <;> simp_all
      exact done_pure h hd hn (c := .v (.int .i64 n)) (x := .int .i64 n) (run (by simp [Builtin.len_, run_underlying hu, hx', goInt])) rfl hg
    · next b n e hb he =>
      rw [hb] at hx
      have hu : P.underlying t = some (.slice e) := by simp only [elemOf?] at he; split at he <;> simp_all
      rcases hx with ⟨g, cap, hm, hnc, hx'⟩ | ⟨rfl, hx'⟩
      rotate_left
      · exact done_pure h hd hn (c := .v (.int .i64 (0 : Nat))) (x := .int .i64 (0 : Nat)) (run (by simp [Builtin.len_, run_underlying hu, hx', goInt])) rfl hg
      exact done_pure h hd hn (c := .v (.int .i64 n)) (x := .int .i64 n) (run (by simp [Builtin.len_, run_underlying hu, hx', goInt])) rfl hg
    · next e hb he =>
      rw [hb] at hx
      have hx' : a.eval x = .slice none 0 0 := hx
      have hu : P.underlying t = some (.slice e) := by simp only [elemOf?] at he; split at he <;> simp_all
      exact done_pure h hd hn (c := .v (.int .i64 0)) (x := .int .i64 0) (run (by simp [Builtin.len_, run_underlying hu, hx', goInt])) rfl hg
    · cases hg
  · cases hg

theorem intV_val {c : V} {k : IntKind} {n : Int} {m : MP} {F : FZ} {H : Array Obj} {x : Value} (h : intV c = some (k, n)) (hx : RV m F H c x) : x = .int k n := by
  cases c <;> simp only [intV] at h <;> try (cases h; done)
  next y =>
    have hx' : x = y := hx
    subst hx'
    cases x <;> simp_all

theorem minmax_run {mx : Bool} {l : List V} {st : ST} {K : V → ST → Prop} {m : MP} {F : FZ} {w : World} {xs : List Value} (hg : (minmaxR mx l).go st K) (hl : l.length = xs.length)
    (hv : ∀ (i : Nat) (c : V) (x : Value), l[i]? = some c → xs[i]? = some x → RV m F w.heap c x) (ts : Array TypeId) (ty : TypeId) :
    ∃ v, ((if mx then Builtin.max_ else Builtin.min_) ts ty xs.toArray).run P w = .ok v w ∧ (RM.retF (.v v)).go st K := by
  simp only [minmaxR] at hg
  split at hg
  · next k a he =>
    rcases l with _ | ⟨c, _ | ⟨d, l⟩⟩ <;> simp at he
    rcases xs with _ | ⟨x, _ | ⟨y, xs⟩⟩ <;> simp at hl
    have h0 := intV_val he (hv 0 c x rfl rfl)
    subst h0
    exact ⟨_, by cases mx <;> simp [Builtin.max_, Builtin.min_], hg⟩
  · next k a k2 b he =>
    rcases l with _ | ⟨c, _ | ⟨d, _ | ⟨e, l⟩⟩⟩ <;> simp at he
    rcases xs with _ | ⟨x, _ | ⟨y, _ | ⟨z, xs⟩⟩⟩ <;> simp at hl
    have h0 := intV_val he.1 (hv 0 c x rfl rfl)
    have h1 := intV_val he.2 (hv 1 d y rfl rfl)
    subst h0 h1
    exact ⟨_, by cases mx <;> simp [Builtin.max_, Builtin.min_, Builtin.max2, Builtin.min2, minmax], hg⟩
  · next k a k2 b k3 c' he =>
    rcases l with _ | ⟨c, _ | ⟨d, _ | ⟨e, _ | ⟨f, l⟩⟩⟩⟩ <;> simp at he
    rcases xs with _ | ⟨x, _ | ⟨y, _ | ⟨z, _ | ⟨u, xs⟩⟩⟩⟩ <;> simp at hl
    have h0 := intV_val he.1 (hv 0 c x rfl rfl)
    have h1 := intV_val he.2.1 (hv 1 d y rfl rfl)
    have h2 := intV_val he.2.2 (hv 2 e z rfl rfl)
    subst h0 h1 h2
    exact ⟨_, by cases mx <;> simp [Builtin.max_, Builtin.min_, Builtin.max2, Builtin.min2, minmax], hg⟩
  · cases hg

theorem args_rel {O : Nat → Prop} {w0 : World} {F0 : FZ} {M0 : MP} {D : List Deferred} {U : Nat → Prop} {F : FZ} {m : MP} {sz : Nat} {tm : TM} {st : ST} {a : Act} {w : World} (h : Rel O w0 F0 M0 D U F m sz tm st a w) (l : List Operand) :
    (l.map (ev tm)).length = (l.map a.eval).length ∧ ∀ (i : Nat) (c : V) (x : Value), (l.map (ev tm))[i]? = some c → (l.map a.eval)[i]? = some x → RV m F w.heap c x := by
  refine ⟨by simp, fun i c x hc hx => ?_⟩
  rw [List.getElem?_map] at hc hx
  cases he : l[i]? with
  | none => simp [he] at hc
  | some o =>
    simp only [he, Option.map_some, Option.some.injEq] at hc hx
    subst hc hx
    exact h.ev o

theorem minmax_ok {o : Oper} {args : Array Operand} {ts : Array TypeId} (mx : Bool) (ho : o.op = .call { callee := .builtin (if mx then .max else .min), args := args, argTypes := ts }) : OpOK P C o := by
  intro O w0 F0 M0 D U F m sz tm st a w id K next Q h hU hd hg hn
  obtain ⟨hl, hv⟩ := args_rel h args.toList
  have hg' : (minmaxR mx (args.toList.map (ev tm))).go st K := by
    cases mx <;> simpa [ho, opR] using hg
  obtain ⟨v, hr, hk⟩ := minmax_run (P := P) hg' hl hv ts o.type
  refine done_pure h hd hn (c := .v v) (x := v) ?_ rfl hk
  rw [run_builtin ho]
  cases mx
  · simp only [Bool.false_eq_true, if_false] at hr ⊢
    have : (args.toList.map a.eval).toArray = args.map a.eval := by apply Array.ext'; simp
    rw [this] at hr
    simp [builtin, hr]
  · simp only [if_true] at hr ⊢
    have : (args.toList.map a.eval).toArray = args.map a.eval := by apply Array.ext'; simp
    rw [this] at hr
    simp [builtin, hr]

theorem indexAddr_ok {o : Oper} {t : TypeId} {x i : Operand} (ho : o.op = .indexAddr t x i) : OpOK P C o := by
  intro O w0 F0 M0 D U F m sz tm st a w id K next Q h hU hd hg hn
  have hx := h.ev x
  have hi := h.ev i
  have elem : ∀ {e}, elemOf? P t = some e → P.underlying t = some (.slice e) := by intro e he; simp only [elemOf?] at he; split at he <;> simp_all
  simp only [ho, opR] at hg
  split at hg
  · next cs n k j hb hj =>
    rw [hb] at hx; rw [hj] at hi
    have hi' : a.eval i = .int k j := hi
    obtain ⟨ad, cap, hx', hnc, hcm, hcs⟩ := hx
    split at hg
    · next e he =>
      split at hg
      · next size hs =>
        obtain ⟨⟨h0, hjn, hlen, hpos⟩, hg⟩ := hg
        rcases hcs with rfl | ⟨g, off, rfl, hF, hc⟩
        · have e0 : n * size = 0 := hlen
          rcases Nat.mul_eq_zero.1 e0 with e0 | e0 <;> omega
        refine done_pure h hd hn (c := .fptr (cs.drop (j.toNat * size))) (x := .pointer (some ⟨g, off + j.toNat * size, none⟩)) ?_ ⟨g, off + j.toNat * size, rfl, ?_, ?_⟩ hg
        · simp [execOp, ho, hx', hi', Instr.indexAt, asIntOf, run_underlying (elem he), h0, hjn, sz_run hs, Addr.add_lit]
        · intro q hq
          rw [List.length_drop] at hq
          have := hF (j.toNat * size + q) (by omega)
          rwa [← Nat.add_assoc] at this
        · have := RCs_drop hc (j.toNat * size)
          rw [List.drop_take, List.drop_drop] at this
          rwa [List.length_drop]
      · cases hg
    · cases hg
  · next b n k j hb hj =>
    rw [hb] at hx; rw [hj] at hi
    have hi' : a.eval i = .int k j := hi
    rcases hx with ⟨g, cap, hm, hnc, hx'⟩ | ⟨rfl, hx'⟩
    rotate_left
    · split at hg
      · split at hg
        · obtain ⟨⟨h0, hjn, hpos⟩, hg⟩ := hg
          omega
        · cases hg
      · cases hg
    split at hg
    · next e he =>
      split at hg
      · next size hs =>
        obtain ⟨⟨h0, hjn, hpos⟩, hg⟩ := hg
        refine done_pure h hd hn (c := .box b (j.toNat * size)) (x := .pointer (some ⟨g, j.toNat * size, none⟩)) ?_ ⟨g, cap, hm, rfl⟩ hg
        simp [execOp, ho, hx', hi', Instr.indexAt, asIntOf, run_underlying (elem he), h0, hjn, sz_run hs, Addr.add_lit]
      · cases hg
    · cases hg
  · next b off k j hb hj =>
    rw [hb] at hx; rw [hj] at hi
    have hi' : a.eval i = .int k j := hi
    obtain ⟨g, c, hm, hx'⟩ := hx
    split at hg
    · next n e he =>
      have hu : P.underlying t = some (.array n e) := by simp only [arrOf?] at he; split at he <;> simp_all
      split at hg
      · next size hs =>
        obtain ⟨⟨h0, hjn⟩, hg⟩ := hg
        refine done_pure h hd hn (c := .box b (off + j.toNat * size)) (x := .pointer (some ⟨g, off + j.toNat * size, none⟩)) ?_ ⟨g, c, hm, rfl⟩ hg
        simp [execOp, ho, hx', hi', Instr.indexAt, asIntOf, run_underlying hu, Instr.sureAddr, h0, hjn, sz_run hs, Addr.add_lit]
      · cases hg
    · cases hg
  · cases hg

theorem index_ok {o : Oper} {t : TypeId} {x i : Operand} (ho : o.op = .index t x i) : OpOK P C o := by
  intro O w0 F0 M0 D U F m sz tm st a w id K next Q h hU hd hg hn
  have hx := h.ev x
  have hi := h.ev i
  simp only [ho, opR] at hg
  split at hg
  · next cs k j n e hb hj he =>
    rw [hb] at hx; rw [hj] at hi
    have hi' : a.eval i = .int k j := hi
    obtain ⟨arr, hx', hc⟩ := hx
    have hu : P.underlying t = some (.array n e) := by simp only [arrOf?] at he; split at he <;> simp_all
    split at hg
    · next size hs =>
      obtain ⟨⟨h0, hjn⟩, hg⟩ := hg
      obtain ⟨c, v, hv, hk, _, hrun⟩ := takeR_clean hg hc
      rw [Array.toArray_toList] at hrun
      refine done_pure h hd hn (x := v) ?_ (RV.of_RC hv) hk
      simp [execOp, ho, hx', hi', Instr.index, asIntOf, run_underlying hu, h0, hjn, sz_run hs, hrun]
    · cases hg
  · cases hg

theorem alloc_ok {o : Oper} {t : TypeId} (ho : o.op = .alloc t) : OpOK P C o := by
  intro O w0 F0 M0 D U F m sz tm st a w id K next Q h hU hd hg hn
  simp only [ho, opR] at hg
  split at hg
  · next z hz =>
    obtain ⟨v, hrun, hzv, hone, _⟩ := zero_run (P := P) (w := w) hz
    simp only [RM.go] at hg
    obtain ⟨hR, hm, hk⟩ := h.new (id := id) (cap := 0) hU (arr := v.cells) (ty := t) (x := .var z false) (by simp) (by
      intro m' hm hid hk hh hno
      refine ⟨_, _, v.cells, t, hid, h.own_new, hh, ⟨by simp [hzv], fun i c x hc hx => ?_⟩, fun j hj => absurd hj (hno j), fun e => by cases e⟩
      subst hzv
      rw [List.getElem?_map, hx] at hc
      cases hc
      exact ⟨rfl, hone _ (List.mem_of_getElem? hx)⟩)
    refine fin_value (v := .pointer (some ⟨w.heap.size, 0, none⟩)) (w' := w.alloc (.cells v.cells t)) ?_ (hn _ _ _ _ _ _ (hR.put hd (c := .box id 0) ⟨w.heap.size, 0, by simp, rfl⟩) hg)
    simp [execOp, ho, Instr.alloc, hrun, newVar, newRow]
  · cases hg

theorem cellsOf_rel {m : MP} {F : FZ} {H : Array Obj} {c : V} {x : Value} {cs : List V} (hc : cellsOf c = some cs) (hx : RV m F H c x) : RVs m F H cs x.cells.toList := by
  have one : ∀ {c : V}, RV m F H c x → x.oneCell' = true → RVs m F H [c] x.cells.toList := by
    intro c h h1
    have : x.cells.toList = [x] := by cases x <;> first | rfl | simp [Value.oneCell'] at h1
    rw [this]
    refine ⟨rfl, fun i c' x' hc hx => ?_⟩
    cases i with
    | zero => simp at hc hx; subst hc hx; exact ⟨h, h1⟩
    | succ i => simp at hc
  cases c with
  | agg cs' =>
    cases hc
    obtain ⟨arr, rfl, h⟩ := hx
    rw [RCs_iff] at h
    exact ⟨h.1, fun i c x hc hx => ⟨RV.of_RC (h.2 i c x hc hx).1, (h.2 i c x hc hx).2 rfl⟩⟩
  | v y =>
    simp only [cellsOf] at hc
    split at hc
    · next h1 => cases hc; have : x = y := hx; exact one hx (by rw [this]; exact h1)
    · cases hc
  | sl cs n => cases hc; obtain ⟨_, _, he, _⟩ := id hx; exact one hx (by rw [he]; rfl)
  | fptr cs => cases hc; obtain ⟨_, _, he, _⟩ := id hx; exact one hx (by rw [he]; rfl)
  | fn g caps => cases hc; obtain ⟨_, he, _⟩ := id hx; exact one hx (by rw [he]; rfl)
  | box b off => cases hc; obtain ⟨_, _, _, he⟩ := id hx; exact one hx (by rw [he]; rfl)
  | osl b n =>
    cases hc
    rcases id hx with ⟨_, _, _, _, he⟩ | ⟨_, he⟩
    · exact one hx (by rw [he]; rfl)
    · exact one hx (by rw [he]; rfl)
  | yld b => cases hc
  | top => cases hc
  | tup _ => cases hc
  | ag cs' =>
    cases hc
    obtain ⟨arr, rfl, hl, h⟩ := hx
    exact ⟨hl, fun i c x hc hx => ⟨RV.of_RP (h i c x hc hx).1, (h i c x hc hx).2⟩⟩

theorem box_ok {o : Oper} {t : TypeId} {x : Operand} (ho : o.op = .box t x) : OpOK P C o := by
  intro O w0 F0 M0 D U F m sz tm st a w id K next Q h hU hd hg hn
  have hx := h.ev x
  simp only [ho, opR] at hg
  split at hg
  · next cs hcs =>
    simp only [RM.go] at hg
    have hr := cellsOf_rel hcs hx
    obtain ⟨hR, hm, hk⟩ := h.new (id := id) (cap := 0) hU (arr := (a.eval x).cells) (ty := t) (x := .var cs false) (by simp) (by
      intro m' hm hid hk hh hno
      exact ⟨_, _, (a.eval x).cells, t, hid, h.own_new, hh, hr.mono hm (fun _ _ e => e) hk, fun j hj => absurd hj (hno j), fun e => by cases e⟩)
    refine fin_value (v := .pointer (some ⟨w.heap.size, 0, none⟩)) (w' := w.alloc (.cells (a.eval x).cells t)) ?_ (hn _ _ _ _ _ _ (hR.put hd (c := .box id 0) ⟨w.heap.size, 0, by simp, rfl⟩) hg)
    simp [execOp, ho, Instr.box, newVar, newRow]
  · cases hg

end
end Go.Ev
/- A run of the model follows the evaluator: operations that write memory; calls. -/
set_option linter.unusedVariables false
set_option linter.unusedSimpArgs false
namespace Go.Ev
open Go.RowKit

section
variable {P : Program} {C : FuncId → Option Con}

theorem splice_get {α : Type} (l new : List α) (off n : Nat) (hn : new.length = n) (ho : off + n ≤ l.length) (j : Nat) :
    (l.take off ++ new ++ l.drop (off + n))[j]? = if j < off then l[j]? else if j < off + n then new[j - off]? else l[j]? := by
  subst hn
  by_cases h1 : j < off
  · rw [if_pos h1, List.append_assoc, List.getElem?_append_left (by rw [List.length_take]; omega), List.getElem?_take, if_pos h1]
  · rw [if_neg h1]
    by_cases h2 : j < off + new.length
    · rw [if_pos h2, List.append_assoc, List.getElem?_append_right (by rw [List.length_take]; omega), List.length_take, Nat.min_eq_left (by omega), List.getElem?_append_left (by omega)]
    · rw [if_neg h2, List.getElem?_append_right (by rw [List.length_append, List.length_take]; omega), List.length_append, List.length_take, Nat.min_eq_left (by omega), List.getElem?_drop]
      congr 1
      omega

theorem RVs_splice {m : MP} {F : FZ} {H : Array Obj} {cs new : List V} {xs ys : List Value} {off n : Nat} (h : RVs m F H cs xs) (k : RVs m F H new ys) (hn : new.length = n) (ho : off + n ≤ cs.length) :
    RVs m F H (cs.take off ++ new ++ cs.drop (off + n)) (xs.take off ++ ys ++ xs.drop (off + n)) := by
  have hl := h.1
  have hl2 := k.1
  refine ⟨by simp [hl]; omega, fun i c x hc hx => ?_⟩
  rw [splice_get cs new off n hn ho] at hc
  rw [splice_get xs ys off n (by omega) (by omega)] at hx
  split at hc
  · next h1 => rw [if_pos h1] at hx; exact h.2 i c x hc hx
  · next h1 =>
    rw [if_neg h1] at hx
    split at hc
    · next h2 => rw [if_pos h2] at hx; exact k.2 _ c x hc hx
    · next h2 => rw [if_neg h2] at hx; exact h.2 i c x hc hx

theorem store_run {t : TypeId} {n g off : Nat} {v : Value} {arr : Array Value} {ty : TypeId} {w : World} (hs : szOf P t = some n) (hv : v.cells.size = n) (hh : w.heap[g]? = some (.cells arr ty (0, 0)))
    (hl : off + n ≤ arr.size) (h1 : ∀ x ∈ v.cells.toList, x.oneCell' = true) :
    (Instr.storeAt t (.pointer (some ⟨g, off, none⟩)) v).run P w = .ok () (w.setRow g (arr.toList.take off ++ v.cells.toList ++ arr.toList.drop (off + n)).toArray) := by
  have := run_storeCells_at P g off ty v.cells.toList 0 arr w hh (by simp; omega) h1
  simp only [Nat.add_zero, Array.length_toList, hv] at this
  simp [Instr.storeAt, Instr.sureAddr, storeVar, sz_run hs, hv, this]

theorem RVs_one {m : MP} {F : FZ} {H : Array Obj} {cs : List V} {xs : List Value} (h : RVs m F H cs xs) : ∀ x ∈ xs, x.oneCell' = true := by
  intro x hx
  obtain ⟨i, hi⟩ := List.getElem?_of_mem hx
  have hi' : i < cs.length := by rw [h.1]; exact (List.getElem?_eq_some_iff.1 hi).1
  exact (h.2 i _ x (List.getElem?_eq_getElem hi') hi).2

theorem store_ok {o : Oper} {t : TypeId} {p x : Operand} (ho : o.op = .store t p x) : OpOK P C o := by
  intro O w0 F0 M0 D U F m sz tm st a w id K next Q h hU hd hg hn
  have hp := h.ev p
  have hx := h.ev x
  simp only [ho, opR] at hg
  split at hg
  · next b off new n hb hc hs =>
    rw [hb] at hp
    obtain ⟨g, c0, hm, hp'⟩ := hp
    have hr := cellsOf_rel hc hx
    have hvs : (a.eval x).cells.size = new.length := by have := hr.1; simpa using this.symm
    simp only [RM.go] at hg
    cases hl : look st b with
    | none => simp [hl] at hg
    | some y =>
      rw [hl] at hg
      cases y with
      | var cs f =>
        cases f with
        | true => simp [RM.go] at hg
        | false =>
          simp only [RM.go] at hg
          obtain ⟨⟨hn0, hoff⟩, hg⟩ := hg
          obtain ⟨g', c, arr, ty, h1, h2, h3, h4, h5, h6⟩ := h.hst b _ hl
          rw [hm] at h1; cases h1
          have hla : cs.length = arr.size := by have := h4.1; simpa using this
          obtain ⟨hR, hk⟩ := h.store (x1 := .var (cs.take off ++ new ++ cs.drop (off + n)) false) (arr' := (arr.toList.take off ++ (a.eval x).cells.toList ++ arr.toList.drop (off + n)).toArray) hl (by simp) (by simp) hm h2 h3
            (fun j hj => by have := h5 j hj; cases this)
            (fun hk hh => ⟨_, _, _, ty, hm, h2, hh, RVs_splice (h4.mono (fun _ _ e => e) (fun _ _ e => e) hk) (hr.mono (fun _ _ e => e) (fun _ _ e => e) hk) hn0 hoff, fun j hj => h5 j hj, fun e => by cases e⟩)
          refine fin_skip ?_ (hn F m .top _ _ _ ((hR.weakU fun _ e => e.1).put hd (c := .top) (x := undef) trivial) hg)
          have := store_run (P := P) (w := w) (off := off) hs (by omega) h3 (by omega) (RVs_one hr)
          simp [execOp, ho, hp', this]
      | row e size cs q =>
        simp only at hg
        obtain ⟨F1, st1, new1, r1, e1, r2, r3, l1⟩ := mapRM_sound (fz_sound 4) new (a.eval x).cells.toList _ st F K h hr.1 (fun i c x hc hx => (hr.2 i c x hc hx).1) hg
        simp only [RM.go] at r3
        cases hl1 : look st1 b with
        | none => simp [hl1] at r3
        | some y1 =>
          rw [hl1] at r3
          cases y1 with
          | row e size cs q =>
            simp only [RM.go] at r3
            obtain ⟨⟨hn0, hoff, hq⟩, hg⟩ := r3
            obtain ⟨g', cap, cur, h1, h2, h3, h4, h5, h6, h7, h8, h9, h10⟩ := RBx.real (r1.hst b _ hl1) hm
            rw [hm] at h1; cases h1
            have hone := RVs_one hr
            have hlr := RCs_length r2
            have hlcur : cs.length ≤ cur.size := by
              have := RCs_length h7
              rw [List.length_take] at this
              simp at this
              omega
            have hnew : RVs m F1 w.heap new1 (a.eval x).cells.toList := ⟨hlr, fun i c x' hc hx => ⟨RV.of_RC ((RCs_iff.1 r2).2 i c x' hc hx).1, hone _ (List.mem_of_getElem? hx)⟩⟩
            have hlv : (a.eval x).cells.size = n := by rw [← hn0, hlr]; simp
            obtain ⟨hR, hk⟩ := r1.store (x1 := .row e size (cs.take off ++ new1 ++ cs.drop (off + n)) q) (arr' := (cur.toList.take off ++ (a.eval x).cells.toList ++ cur.toList.drop (off + n)).toArray) hl1 (by simp) (by simp) hm h2 h3
              (fun j hj => by
                have := h8 j hj
                have hs2 := splice_get cur.toList (a.eval x).cells.toList off n (by simpa using hlv) (by simp; omega) j
                simp only [hs2]
                rw [if_pos (by omega)])
              (fun hk hh => by
                refine .inl ⟨_, _, _, hm, h2, hh, h4, ?_, h6, ?_, h8, h9, ?_⟩
                · have := congrArg List.length (show cur.toList.take off ++ cur.toList.drop off = cur.toList from List.take_append_drop _ _)
                  simp only [List.size_toArray, List.length_append, List.length_take, List.length_drop, Array.length_toList]
                  omega
                · have e3 : RCs F1 (w.setRow g (cur.toList.take off ++ (a.eval x).cells.toList ++ cur.toList.drop (off + n)).toArray).heap true (cs.take off ++ new1 ++ cs.drop (off + n)) ((cur.toList.take cs.length).take off ++ (a.eval x).cells.toList ++ (cur.toList.take cs.length).drop (off + n)) :=
                    RCs_append (RCs_append (RCs_take (RCs.mono (fun _ _ e => e) hk _ _ h7) off) (RCs_one (RCs.mono (fun _ _ e => e) hk _ _ r2) hone)) (RCs_drop (RCs.mono (fun _ _ e => e) hk _ _ h7) (off + n))
                  have e4 : (cs.take off ++ new1 ++ cs.drop (off + n)).length = cs.length := by
                    simp only [List.length_append, List.length_take, List.length_drop]; omega
                  rw [e4]
                  refine Eq.mp (congrArg (RCs F1 _ true _) ?_) e3
                  apply List.ext_getElem?
                  intro j
                  rw [List.getElem?_take]
                  rw [splice_get cur.toList (a.eval x).cells.toList off n (by simpa using hlv) (by simp; omega) j]
                  rw [splice_get (List.take cs.length cur.toList) (a.eval x).cells.toList off n (by simpa using hlv) (by rw [List.length_take]; simp; omega) j]
                  rw [List.getElem?_take]
                  by_cases h1 : j < off
                  · simp [h1, show j < cs.length by omega]
                  · by_cases h2 : j < off + n
                    · simp [h1, h2, show j < cs.length by omega]
                    · simp [h1, h2]
                · simp only [List.length_append, List.length_take, List.length_drop]; omega)
            refine fin_skip ?_ (hn F1 m .top _ _ _ ((hR.weakU fun _ e => e.1).put hd (c := .top) (x := undef) trivial) hg)
            have := store_run (P := P) (w := w) (off := off) hs hlv h3 (by omega) hone
            simp [execOp, ho, hp', this]
          | var cs f => simp [RM.go] at r3
          | loop r => simp [RM.go] at r3
          | mark p => simp [RM.go] at r3
          | dead => simp [RM.go] at r3
          | nest e e2 s2 cs hole => simp [RM.go] at r3
      | loop r => simp [RM.go] at hg
      | mark p => simp [RM.go] at hg
      | dead => simp [RM.go] at hg
      | nest e e2 s2 cs hole =>
        simp only at hg
        split at hg
        · next b2 n2 hxo =>
          simp only [RM.go] at hg
          cases hl2 : look st b2 with
          | none => simp [hl2] at hg
          | some y2 =>
            rw [hl2] at hg
            cases y2 with
            | row e' s' ls p =>
              cases p with
              | succ p => simp [RM.go] at hg
              | zero =>
                simp only at hg
                split at hg
                · next he =>
                  obtain ⟨rfl, rfl⟩ := he
                  obtain ⟨⟨rfl, hlen, hpos, hoff, hbb⟩, hk⟩ := hg
                  simp only [RM.go] at hk
                  obtain ⟨hole1, hhole, hk⟩ := hk
                  rw [hxo] at hx
                  obtain ⟨cur, ty, hh, hsz, h1, h2, hR⟩ := h.give hl hm hl2 hbb hlen hpos hoff hhole hx
                  refine fin_skip ?_ (hn F m .top _ _ _ ((hR.weakU fun _ e => e.1).put hd (c := .top) (x := undef) trivial) hk)
                  have := store_run (P := P) (w := w) (off := off) (v := a.eval x) hs (by rw [h2]; rfl) hh hsz (by rw [h2]; intro y hy; simp at hy; rw [hy]; exact h1)
                  rw [h2] at this
                  simp [execOp, ho, hp', this]
                · cases hg
            | var cs f => simp [RM.go] at hg
            | loop r => simp [RM.go] at hg
            | mark p => simp [RM.go] at hg
            | dead => simp [RM.go] at hg
            | nest e e2 s2 cs hole => simp [RM.go] at hg
        · cases hg
  · cases hg

theorem slice_ok {o : Oper} {t : TypeId} {x : Operand} {lo hi mx : Option Operand} (ho : o.op = .slice t x lo hi mx) : OpOK P C o := by
  intro O w0 F0 M0 D U F m sz tm st a w id K next Q h hU hd hg hn
  have hx := h.ev x
  simp only [ho, opR] at hg
  split at hg
  · next e he =>
    have hu : P.underlying t = some (.slice e) := by simp only [elemOf?] at he; split at he <;> simp_all
    split at hg
    · next size hs =>
      obtain ⟨F1, st1, c1, r1, e1, r2, r3, l1⟩ := fz_sound 4 _ _ _ st F K h hx hg
      split at r3
      · next cs n =>
        obtain ⟨ad, cap, hx', hnc, hcm, hcs⟩ := r2
        have bound : ∀ {q : Option Operand} {d i : Int}, boundI (ev tm) q d = some i → (q = none ∧ i = d) ∨ ∃ y k, q = some y ∧ a.eval y = .int k i := by
          intro q d i hq
          cases q with
          | none => simp [boundI] at hq; exact .inl ⟨rfl, hq.symm⟩
          | some y =>
            simp only [boundI, Option.map_eq_some_iff] at hq
            obtain ⟨⟨k, i'⟩, h1, rfl⟩ := hq
            exact .inr ⟨y, k, rfl, intV_val h1 (h.ev y)⟩
        split at r3
        · next i j hi hj =>
          obtain ⟨⟨h0, hij, hjn, hlen⟩, hk⟩ := r3
          obtain ⟨i, rfl⟩ := Int.eq_ofNat_of_zero_le h0
          obtain ⟨j, rfl⟩ := Int.eq_ofNat_of_zero_le (Int.le_trans h0 hij)
          have hij' : i ≤ j := by omega
          have hjn' : j ≤ n := by omega
          have hrun : (execOp a.eval o).run P w = .ok (.value (.slice (if cap = i then ad else ad.map (·.add (i * size))) (j - i) (cap - i))) w := by
            rcases bound hi with ⟨rfl, hi'⟩ | ⟨y, k1, rfl, hy⟩
            · obtain rfl : i = 0 := by omega
              rcases bound hj with ⟨rfl, hj'⟩ | ⟨z, k2, rfl, hz⟩
              · obtain rfl : j = n := by omega
                simp [execOp, ho, hx', Instr.sliceAt, Instr.slice, run_underlying hu, Instr.sliceBounds, sz_run hs]
              · have hjc : j ≤ cap := by omega
                simp [execOp, ho, hx', Instr.sliceAt, Instr.slice, run_underlying hu, Instr.sliceBounds, Instr.sliceBound, asIntOf, sz_run hs, hz, hjc]
            · rcases bound hj with ⟨rfl, hj'⟩ | ⟨z, k2, rfl, hz⟩
              · obtain rfl : j = n := by omega
                simp [execOp, ho, hx', Instr.sliceAt, Instr.slice, run_underlying hu, Instr.sliceBounds, Instr.sliceBound, asIntOf, sz_run hs, hy, hij']
              · have hjc : j ≤ cap := by omega
                simp [execOp, ho, hx', Instr.sliceAt, Instr.slice, run_underlying hu, Instr.sliceBounds, Instr.sliceBound, asIntOf, sz_run hs, hy, hz, hjc, hij']
          have hcl : RC F1 w.heap (.sl ((cs.drop (i * size)).take ((j - i) * size)) (j - i)) (.slice (if cap = i then ad else ad.map (·.add (i * size))) (j - i) (cap - i)) := by
            refine ⟨_, _, rfl, by omega, by omega, ?_⟩
            by_cases hz : (cs.drop (i * size)).take ((j - i) * size) = []
            · exact .inl hz
            right
            have hpos : 0 < ((cs.drop (i * size)).take ((j - i) * size)).length := by
              rcases hx0 : (cs.drop (i * size)).take ((j - i) * size) with _ | ⟨y, ys⟩
              · exact absurd hx0 hz
              · simp
            rw [List.length_take, List.length_drop] at hpos
            have hij2 : i < j := by
              rcases Nat.lt_or_ge i j with h | h
              · exact h
              · have : j - i = 0 := by omega
                rw [this] at hpos; simp at hpos
            rcases hcs with rfl | ⟨g, off, rfl, hF, hc⟩
            · simp at hpos
            refine ⟨g, off + i * size, ?_, ?_, ?_⟩
            · rw [if_neg (by omega)]; simp [Addr.add_lit]
            · intro q hq
              rw [List.length_take, List.length_drop] at hq
              have := hF (i * size + q) (by omega)
              rwa [← Nat.add_assoc] at this
            · have := RCs_take (RCs_drop hc (i * size)) ((j - i) * size)
              rw [List.drop_take, List.drop_drop, List.take_take] at this
              rw [List.length_take, List.length_drop]
              exact this
          exact fin_value hrun (hn F1 m _ st1 _ _ ((r1.weakU fun _ e => e.1).put hd (RV.of_RC (by simpa using hcl)) ) hk)
        · cases r3
      · cases r3
    · cases hg
  · cases hg

end
end Go.Ev
/- A run of the model follows the evaluator: values that are built; slices that are made and appended to. -/
set_option linter.unusedVariables false
set_option linter.unusedSimpArgs false
namespace Go.Ev
open Go.RowKit

section
variable {P : Program} {C : FuncId → Option Con}

theorem foldl_set (off : Nat) : ∀ (vs : List Value) (k : Nat) (cs : Array Value), off + k + vs.length ≤ cs.size →
    ((vs.zipIdx k).foldl (fun cs p => cs.setIfInBounds (off + p.2) p.1) cs).toList = cs.toList.take (off + k) ++ vs ++ cs.toList.drop (off + k + vs.length)
  | [], k, cs, _ => by simp
  | v :: vs, k, cs, h => by
    simp only [List.length_cons] at h
    rw [List.zipIdx_cons, List.foldl_cons, foldl_set off vs (k + 1) _ (by simp; omega)]
    apply List.ext_getElem?
    intro j
    have e1 : off + (k + 1) = off + k + 1 := by omega
    rw [e1]
    have hs : (cs.setIfInBounds (off + k) v).toList = cs.toList.set (off + k) v := by simp
    simp only [hs]
    have h1 := splice_get (cs.toList.set (off + k) v) vs (off + k + 1) vs.length rfl (by simp; omega) j
    have h2 := splice_get cs.toList (v :: vs) (off + k) (vs.length + 1) rfl (by simp; omega) j
    have e2 : off + k + 1 + vs.length = off + k + (v :: vs).length := by simp; omega
    have e3 : off + k + (vs.length + 1) = off + k + (v :: vs).length := by simp
    rw [e2] at h1
    rw [e3] at h2
    rw [e2, h1, h2]
    by_cases hj : j < off + k
    · rw [if_pos (by omega), if_pos hj, List.getElem?_set_ne (by omega)]
    · rw [if_neg hj]
      by_cases hj2 : j = off + k
      · subst hj2
        rw [if_pos (by omega), if_pos (by simp), List.getElem?_set_self (by simp; omega)]
        simp
      · rw [if_neg (by omega)]
        split
        · have e4 : j - (off + k) = j - (off + k + 1) + 1 := by omega
          rw [e4, List.getElem?_cons_succ]
        · rw [List.getElem?_set_ne (by omega)]

theorem fill_sound {m : MP} {F : FZ} {H : Array Obj} {st : ST} {K : V → ST → Prop} {place : Nat → Option (Nat × Nat)} : ∀ {l : List (Nat × V)} {vs : List (Nat × Value)} {cells : List V} {xs : Array Value} {k : List V → RM},
    (fillR place cells l k).go st K → RVs m F H cells xs.toList → l.length = vs.length → (∀ (i : Nat) (c : Nat × V) (x : Nat × Value), l[i]? = some c → vs[i]? = some x → c.1 = x.1 ∧ RV m F H c.2 x.2) →
    ∃ cs ys, Instr.fill place xs vs = some ys ∧ RVs m F H cs ys.toList ∧ (k cs).go st K ∧ ys.size = xs.size
  | [], [], cells, xs, k, hg, hr, _, _ => ⟨cells, xs, rfl, hr, hg, rfl⟩
  | [], _ :: _, _, _, _, _, _, hl, _ => by simp at hl
  | _ :: _, [], _, _, _, _, _, hl, _ => by simp at hl
  | (i, c) :: l, (i', x) :: vs, cells, xs, k, hg, hr, hl, hv => by
    obtain ⟨hi, hx⟩ := hv 0 _ _ rfl rfl
    simp only at hi hx
    subst hi
    simp only [fillR] at hg
    split at hg
    · next off size cs hp hc =>
      obtain ⟨⟨h1, h2⟩, hg⟩ := hg
      have hrv := cellsOf_rel hc hx
      have hcs : x.cells.size = size := by have := hrv.1; simp at this; omega
      have hxs : cells.length = xs.size := by have := hr.1; simpa using this
      have hset := foldl_set off x.cells.toList 0 xs (by simp; omega)
      simp only [Nat.add_zero, Array.length_toList, hcs] at hset
      have hsize : (x.cells.zipIdx.foldl (fun cs p => cs.setIfInBounds (off + p.2) p.1) xs).size = xs.size := by
        have e : (x.cells.zipIdx.foldl (fun cs p => cs.setIfInBounds (off + p.2) p.1) xs).toList = xs.toList.take off ++ x.cells.toList ++ xs.toList.drop (off + size) := by
          rw [← hset, ← Array.foldl_toList]
          simp
        rw [← Array.length_toList, e]
        simp only [List.length_append, List.length_take, List.length_drop, Array.length_toList]
        omega
      obtain ⟨cs', ys, e1, e2, e3, e4⟩ := fill_sound (xs := x.cells.zipIdx.foldl (fun cs p => cs.setIfInBounds (off + p.2) p.1) xs) hg (by
        have e : (x.cells.zipIdx.foldl (fun cs p => cs.setIfInBounds (off + p.2) p.1) xs).toList = xs.toList.take off ++ x.cells.toList ++ xs.toList.drop (off + size) := by
          rw [← hset, ← Array.foldl_toList]
          simp
        rw [e]
        exact RVs_splice hr hrv h1 h2) (by simpa using hl) (fun j c x hc hx => hv (j + 1) c x (by simpa using hc) (by simpa using hx))
      refine ⟨cs', ys, ?_, e2, e3, by rw [e4, hsize]⟩
      simp only [Instr.fill, hp, hcs]
      rw [if_neg (by simp; omega)]
      exact e1
    · cases hg

theorem parts_rel {O : Nat → Prop} {w0 : World} {F0 : FZ} {M0 : MP} {D : List Deferred} {U : Nat → Prop} {F : FZ} {m : MP} {sz : Nat} {tm : TM} {st : ST} {a : Act} {w : World} (h : Rel O w0 F0 M0 D U F m sz tm st a w) (l : List (Nat × Operand)) :
    (l.map fun (i, x) => (i, ev tm x)).length = (l.map fun (i, x) => (i, a.eval x)).length ∧
    ∀ (i : Nat) (c : Nat × V) (x : Nat × Value), (l.map fun (i, x) => (i, ev tm x))[i]? = some c → (l.map fun (i, x) => (i, a.eval x))[i]? = some x → c.1 = x.1 ∧ RV m F w.heap c.2 x.2 := by
  refine ⟨by simp, fun i c x hc hx => ?_⟩
  rw [List.getElem?_map] at hc hx
  cases he : l[i]? with
  | none => simp [he] at hc
  | some p =>
    simp only [he, Option.map_some, Option.some.injEq] at hc hx
    subst hc hx
    exact ⟨rfl, h.ev p.2⟩

theorem zero_RVs {m : MP} {F : FZ} {H : Array Obj} {v : Value} (hone : ∀ x ∈ v.cells.toList, x.oneCell' = true) : RVs m F H (v.cells.toList.map V.v) v.cells.toList := by
  refine ⟨by simp, fun i c x hc hx => ?_⟩
  rw [List.getElem?_map, hx] at hc
  cases hc
  exact ⟨rfl, hone _ (List.mem_of_getElem? hx)⟩

theorem build_ok {o : Oper} {t : TypeId} {parts : Array (Nat × Operand)} (ho : o.op = .build t parts) : OpOK P C o := by
  intro O w0 F0 M0 D U F m sz tm st a w id K next Q h hU hd hg hn
  simp only [ho, opR] at hg
  split at hg
  · next z pl hz hpl =>
    obtain ⟨v, hrun, hzv, hone, it, hit, hitz, hsz⟩ := zero_run (P := P) (w := w) hz
    subst hzv
    obtain ⟨hl, hv⟩ := parts_rel h parts.toList
    obtain ⟨cs, ys, hf, hr, hk, _⟩ := fill_sound hg (zero_RVs hone) hl hv
    have hb : P.built t (parts.toList.map fun (i, x) => (i, a.eval x)) = some ys := by
      simp only [placesOf] at hpl
      unfold Program.built
      simp only [hit]
      split at hpl
      · next fs hu =>
        split at hpl
        · next l hm =>
          cases hpl
          simp only [hu, hitz, hm]
          exact hf
        · cases hpl
      · next n e hu =>
        split at hpl
        · next ie hie =>
          cases hpl
          simp only [hu, hitz, hie]
          exact hf
        · cases hpl
      · cases hpl
    split at hk
    · next hkp =>
      simp only [ownAg, Bool.and_eq_true, List.all_eq_true] at hkp
      refine fin_value (v := .agg ys) (w' := w) ?_ (hn F m _ st _ _ ((h.weakU fun _ e => e.1).put hd (c := .ag cs) (x := .agg ys) ⟨ys, rfl, hr.1, fun i c x hc hx => ?_⟩) hk)
      · have := run_build (P := P) w t (parts.map fun (i, x) => (i, a.eval x)) ys (by simpa using hb)
        simp [execOp, ho, this]
      · obtain ⟨q1, q2⟩ := hr.2 i c x hc hx
        refine ⟨?_, q2⟩
        have hne := hkp.2 c (List.mem_of_getElem? hc)
        cases c <;> first | exact q1 | simp [notFn] at hne
    obtain ⟨F1, st1, cs1, r1, e1, r2, r3, _⟩ := mapRM_sound (fz_sound 4) cs ys.toList _ st F K h hr.1 (fun i c x hc hx => (hr.2 i c x hc hx).1) hk
    refine fin_value (v := .agg ys) (w' := w) ?_ (hn F1 m _ st1 _ _ ((r1.weakU fun _ e => e.1).put hd (c := .agg cs1) (RV.of_RC ⟨ys, rfl, RCs_one r2 (RVs_one hr)⟩)) r3)
    have := run_build (P := P) w t (parts.map fun (i, x) => (i, a.eval x)) ys (by simpa using hb)
    simp [execOp, ho, this]
  · cases hg

theorem RCs_of_RVs_one {m : MP} {F F' : FZ} {H : Array Obj} {cs cs' : List V} {xs : List Value} (h : RVs m F H cs xs) (k : RCs F' H false cs' xs) : RCs F' H true cs' xs := RCs_one k (RVs_one h)

/-- A new row. -/
theorem row_new {O : Nat → Prop} {w0 : World} {F0 : FZ} {M0 : MP} {D : List Deferred} {U : Nat → Prop} {F : FZ} {m : MP} {sz : Nat} {tm : TM} {st : ST} {a : Act} {w : World} (h : Rel O w0 F0 M0 D U F m sz tm st a w) {id : Nat} (hU : U id)
    {e : TypeId} {size n : Nat} {cs : List V} {arr : Array Value} (hpos : 0 < size) (hc : RCs F w.heap true cs arr.toList) (hl : arr.size = n * size) (hn : n ≤ maxLen) :
    Rel O w0 F0 M0 D (fun b => U b ∧ b ≠ id) F (fun b => if b = id then some (w.heap.size, n) else m b) sz tm ((id, .row e size cs 0) :: st) a (w.alloc (.cells arr e)) ∧
    (∀ b y, m b = some y → (fun b => if b = id then some (w.heap.size, n) else m b) b = some y) ∧ Keeps F w.heap (w.alloc (.cells arr e)).heap := by
  refine h.new (id := id) (cap := n) hU (arr := arr) (ty := e) (x := .row e size cs 0) (by simp) ?_
  intro m' hm hid hk hh hno
  refine .inl ⟨_, _, arr, hid, h.own_new, hh, hn, hl, hpos, ?_, fun j hj => absurd hj (hno j), fun j hj => absurd hj (Nat.not_lt_zero _), Nat.zero_le _⟩
  have := RCs_length hc
  rw [List.take_of_length_le (by omega)]
  exact RCs.mono (fun _ _ e => e) hk _ _ hc

theorem nestOf_elim {e e2 : TypeId} {s2 : Nat} (h : nestOf P e = some (e2, s2)) : szOf P e = some 1 ∧ zeroOf P e = some [.v (.slice none 0 0)] ∧ 0 < s2 := by
  unfold nestOf at h
  split at h
  · next h1 h2 h3 =>
    split at h
    · cases h; exact ⟨h2, h3, Nat.succ_pos _⟩
    · cases h
  · cases h

theorem buildSlice_ok {o : Oper} {t : TypeId} {n : Nat} {parts : Array (Nat × Operand)} (ho : o.op = .buildSlice t n parts) : OpOK P C o := by
  intro O w0 F0 M0 D U F m sz tm st a w id K next Q h hU hd hg hn
  simp only [ho, opR] at hg
  split at hg
  · next e he =>
    have hu : P.underlying t = some (.slice e) := by simp only [elemOf?] at he; split at he <;> simp_all
    split at hg
    · next size z hs hz =>
      split at hg
      · next hc =>
        obtain ⟨hpos, h24⟩ := hc
        obtain ⟨v, hrun, hzv, hone, it, hit, hitz, hvsz⟩ := zero_run (P := P) (w := w) hz
        have hsize : v.cells.size = size := by simp [szOf, hit] at hs; omega
        subst hzv
        obtain ⟨hl, hv⟩ := parts_rel h parts.toList
        have hz0 : RVs m F w.heap ((List.range (n * size)).map fun i => ((v.cells.toList.map V.v)[i % size]?).getD .top) ((Array.range (n * size)).map (fun i => v.cells[i % v.cells.size]!)).toList := by
          refine ⟨by simp, fun i c x hc hx => ?_⟩
          have hi : i < n * size := by
            have := (List.getElem?_eq_some_iff.1 hc).1
            simpa using this
          have him : i % size < v.cells.size := by rw [hsize]; exact Nat.mod_lt _ hpos
          simp only [List.getElem?_map, List.getElem?_range hi, Option.map_some, Option.some.injEq] at hc
          have hx2 : v.cells[i % size]'him = x := by
            simp [hi, hsize] at hx
            rw [← hx]
            simp [him]
          have hc2 : ((v.cells.toList)[i % size]?) = some (v.cells[i % size]'him) := by simp [him]
          rw [hc2] at hc
          simp at hc
          subst hc hx2
          exact ⟨rfl, hone _ (by simp)⟩
        obtain ⟨cs, ys, hf, hr, hk, hys⟩ := fill_sound hg hz0 hl hv
        have hys' : ys.size = n * size := by rw [hys]; simp
        have hnm : n ≤ maxLen := by
          have : n ≤ n * size := Nat.le_mul_of_pos_right n hpos
          unfold maxLen; omega
        have hmach : (execOp a.eval o).run P w = .ok (.value (.slice (some ⟨w.heap.size, 0, none⟩) n n)) (w.alloc (.cells ys e)) := by
          have hf' : Instr.fill (fun i => some (i * size, size)) (Array.map (fun i => v.cells[i % v.cells.size]!) (Array.range (n * size))) (parts.toList.map fun (i, x) => (i, a.eval x)) = some ys := hf
          by_cases h0 : n * size = 0
          · rw [h0] at hf'
            simp only [execOp, ho, Instr.buildSlice, Sem.run_bind, run_underlying hu, Result.andThen_ok, sz_run hs, Sem.run_ite, h0, if_true, Sem.run_pure]
            simp only [Array.toList_map]
            simp only [show ¬ ((0 : Nat) > 2 ^ 24) by decide, if_false, Result.andThen_ok, Sem.run_pure]
            have hz : Array.map (fun i => (#[] : Array Value)[i % (#[] : Array Value).size]!) (Array.range 0) = Array.map (fun i => v.cells[i % v.cells.size]!) (Array.range 0) := by simp
            rw [hz, hf']
            simp [newRow]
          · have h24' : ¬ (n * size > 2 ^ 24) := by omega
            simp only [execOp, ho, Instr.buildSlice, Sem.run_bind, run_underlying hu, Result.andThen_ok, sz_run hs, Sem.run_ite, h0, h24', if_false, Sem.run_pure, hrun]
            simp only [Array.toList_map]
            rw [hf']
            simp [newRow]
        split at hk
        · next e2 s2 hno _ =>
          obtain ⟨hs1, hz1, hpos2⟩ := nestOf_elim hno
          have hs0 : size = 1 := by rw [hs] at hs1; cases hs1; rfl
          obtain ⟨L, hL⟩ := h.nst
          obtain ⟨st', L', cs', r1, r2, r3, r4, r5, r6⟩ := takeAll_sound (id := id) hpos2 cs ys.toList 0 _ st L h hL hr.1 (fun i c x hc hx => (hr.2 i c x hc hx).1) hk
          simp only [RM.go] at r6
          have hold : ∀ k, k < w.heap.size → (w.alloc (.cells ys e)).heap[k]? = w.heap[k]? := fun k hk => Below.heap_alloc w _ _ hk
          have hlen : ys.toList.length = n := by simp; rw [hys', hs0, Nat.mul_one]
          obtain ⟨hR, hm, hk2⟩ := r1.newP (PL := fun M => M = L') ⟨L', r2, rfl⟩ (id := id) (cap := n) hU (arr := ys) (ty := e) (x := .nest e e2 s2 cs' []) (by simp)
            (by
              intro m' hm hid hk hh hno
              exact .inl ⟨_, n, _, hid, r1.own_new, hh, hnm, by rw [hys', hs0, Nat.mul_one], by rw [r4, hlen]; exact Nat.le_refl _, hno⟩)
            (by
              intro M m' hM hid hh g c hm i y hy _
              subst hM
              rw [hid] at hm; cases hm
              have hi : i < ys.toList.length := by rw [← r4]; exact (List.getElem?_eq_some_iff.1 hy).1
              refine ⟨ys.toList[i], by rw [cellsAt_of hh]; exact List.getElem?_eq_getElem hi, ?_⟩
              have := r5 i y _ hy (List.getElem?_eq_getElem hi)
              rw [Nat.zero_add] at this
              exact this.mono (fun _ _ e => e) (fun g j hj => by rw [cellsAt_congr (hold g (r1.f2 g j hj))]) fun g _ _ _ hg => ⟨hg, hold g (r2.lo g _ _ hg).2.1⟩)
          exact fin_value (v := .slice (some ⟨w.heap.size, 0, none⟩) n n) (w' := w.alloc (.cells ys e)) hmach (hn _ _ _ _ _ _ (hR.put hd (c := .osl id n) (.inl ⟨w.heap.size, n, by simp, Nat.le_refl _, rfl⟩)) r6)
        · obtain ⟨F1, st1, cs1, r1, e1, r2, r3, _⟩ := mapRM_sound (fz_sound 4) cs ys.toList _ st F K h hr.1 (fun i c x hc hx => (hr.2 i c x hc hx).1) hk
          simp only [RM.go] at r3
          obtain ⟨hR, hm, hk⟩ := row_new r1 hU (id := id) (e := e) (size := size) (n := n) (cs := cs1) (arr := ys) hpos (RCs_one r2 (RVs_one hr)) hys' hnm
          exact fin_value (v := .slice (some ⟨w.heap.size, 0, none⟩) n n) (w' := w.alloc (.cells ys e)) hmach (hn _ _ _ _ _ _ (hR.put hd (c := .osl id n) (.inl ⟨w.heap.size, n, by simp, Nat.le_refl _, rfl⟩)) r3)
      · cases hg
    · cases hg
  · cases hg
theorem flat_get {z : List V} {zs : List Value} (hl : z.length = zs.length) : ∀ (n : Nat), (List.replicate n z).flatten.length = n * zs.length
  | 0 => by simp
  | n + 1 => by simp [hl]

theorem makeSlice_ok {o : Oper} {t : TypeId} {ln cp : Operand} (ho : o.op = .makeSlice t ln cp) : OpOK P C o := by
  intro O w0 F0 M0 D U F m sz tm st a w id K next Q h hU hd hg hn
  have hln := h.ev ln
  have hcp := h.ev cp
  simp only [ho, opR] at hg
  split at hg
  · next i j e hi hj he =>
    have hu : P.underlying t = some (.slice e) := by simp only [elemOf?] at he; split at he <;> simp_all
    rw [hi] at hln; rw [hj] at hcp
    have hln' : a.eval ln = .int .i64 i := hln
    have hcp' : a.eval cp = .int .i64 j := hcp
    split at hg
    · next size bytes z hs hb hz =>
      obtain ⟨⟨h0, hij, hbig, hpos, hmax⟩, hg⟩ := hg
      subst hij
      obtain ⟨v, hrun, hzv, hone, it, hit, hitz, hvsz⟩ := zero_run (P := P) (w := w) hz
      have hsize : v.cells.size = size := by simp [szOf, hit] at hs; omega
      have hbytes : it.bytes = bytes := by simpa [bytesOf, hit] using hb
      subst hzv
      obtain ⟨n, rfl⟩ := Int.eq_ofNat_of_zero_le h0
      simp only [Int.toNat_natCast] at hg
      have hnm : n ≤ maxLen := by omega
      have hsmall0 : n ≤ 9223372036854775807 := by unfold maxLen at hnm; omega
      have hbig0 : (it.bytes : Int) * n ≤ 281474976710656 := by
        rw [hbytes, Int.mul_comm]; exact hbig
      split at hg
      · next e2 s2 hno =>
        simp only [RM.go] at hg
        obtain ⟨hs1, hz1, hpos2⟩ := nestOf_elim hno
        have hs0 : size = 1 := by rw [hs] at hs1; cases hs1; rfl
        subst hs0
        have hv1 : v.cells.toList = [.slice none 0 0] := by
          rw [hz] at hz1
          simp only [Option.some.injEq] at hz1
          match hvc : v.cells.toList, hz1 with
          | [y], h1 => simp at h1; rw [h1]
        have hv2 : v.cells = #[.slice none 0 0] := by rw [← Array.toArray_toList (xs := v.cells), hv1]
        have hmk : (Array.range (n * 1)).map (fun i => v.cells[i % v.cells.size]!) = Array.replicate n (Value.slice none 0 0) := by
          apply Array.ext'
          rw [hv2]
          simp only [Nat.mul_one, Array.toList_map, Array.toList_range, Array.toList_replicate]
          apply List.ext_getElem?
          intro i
          by_cases hi : i < n
          · simp [hi, Nat.mod_one]
          · simp [hi]
        obtain ⟨hR, hm, hk⟩ := h.new (id := id) (cap := n) hU (arr := Array.replicate n (Value.slice none 0 0)) (ty := e) (x := .nest e e2 s2 (List.replicate n (.sl [] 0)) []) (by simp)
          (by
            intro m' hm hid hk hh hno
            exact .inl ⟨_, n, _, hid, h.own_new, hh, hnm, by simp, by simp, hno⟩)
          (by
            intro L m' hid hh g c hm i y hy _
            rw [hid] at hm; cases hm
            have hi : i < n := by have := (List.getElem?_eq_some_iff.1 hy).1; simpa using this
            rw [List.getElem?_replicate, if_pos hi] at hy
            cases hy
            exact ⟨.slice none 0 0, by rw [cellsAt_of hh]; simp [hi], [], 0, rfl, by simp, hpos2, .inl ⟨rfl, rfl⟩⟩)
        refine fin_value (v := .slice (some ⟨w.heap.size, 0, none⟩) n n) (w' := w.alloc (.cells (Array.replicate n (Value.slice none 0 0)) e)) ?_ (hn _ _ _ _ _ _ (hR.put hd (c := .osl id n) (.inl ⟨w.heap.size, n, by simp, Nat.le_refl _, rfl⟩)) hg)
        have := run_make (P := P) w t e it v hu hit hitz .i64 .i64 (n : Int) (n : Int) h0 (Int.le_refl _) hbig0 (by omega)
        have hits : it.size = 1 := by omega
        simp only [Int.toNat_natCast, hits] at this
        rw [show madeCells v.cells (n * 1) = Array.replicate n (Value.slice none 0 0) from hmk] at this
        simp only [execOp, ho, hln', hcp', Sem.run_bind, this]
        rfl
      simp only [RM.go] at hg
      have hsmall : n ≤ 9223372036854775807 := by unfold maxLen at hnm; omega
      have hc : RCs F w.heap true (List.replicate n (v.cells.toList.map V.v)).flatten ((Array.range (n * size)).map (fun i => v.cells[i % v.cells.size]!)).toList := by
        have hlen : (List.replicate n (v.cells.toList.map V.v)).flatten.length = n * size := by simp [hsize]
        rw [RCs_iff]
        refine ⟨by rw [hlen]; simp, fun i c x hc hx => ?_⟩
        have hi : i < n * size := by rw [← hlen]; exact (List.getElem?_eq_some_iff.1 hc).1
        have him : i % size < v.cells.size := by rw [hsize]; exact Nat.mod_lt _ hpos
        have hx2 : v.cells[i % size]'him = x := by
          simp [hi, hsize] at hx
          rw [← hx]
          simp [him]
        have key : ∀ (n i : Nat), i < n * size → (List.replicate n (v.cells.toList.map V.v)).flatten[i]? = some (V.v (v.cells[i % size]'(by rw [hsize]; exact Nat.mod_lt _ hpos))) := by
          intro n
          induction n with
          | zero => intro i hi; omega
          | succ n ih =>
            intro i hi
            rw [List.replicate_succ, List.flatten_cons]
            by_cases hlt : i < size
            · rw [List.getElem?_append_left (by simp; omega), List.getElem?_map]
              simp [Nat.mod_eq_of_lt hlt, hsize, hlt]
            · rw [List.getElem?_append_right (by simp; omega)]
              have e1 : i - (v.cells.toList.map V.v).length = i - size := by simp [hsize]
              rw [e1, ih (i - size) (by rw [Nat.add_mul] at hi; omega)]
              congr 3
              exact (Nat.mod_eq_sub_mod (by omega)).symm
        rw [key n i hi] at hc
        cases hc
        subst hx2
        exact ⟨rfl, fun _ => hone _ (by simp)⟩
      obtain ⟨hR, hm, hk⟩ := row_new h hU (id := id) (e := e) (size := size) (n := n) hpos hc (by simp) hnm
      refine fin_value (v := .slice (some ⟨w.heap.size, 0, none⟩) n n) (w' := w.alloc (.cells ((Array.range (n * size)).map (fun i => v.cells[i % v.cells.size]!)) e)) ?_ (hn _ _ _ _ _ _ (hR.put hd (c := .osl id n) (.inl ⟨w.heap.size, n, by simp, Nat.le_refl _, rfl⟩)) hg)
      have hbig' : (it.bytes : Int) * n ≤ 281474976710656 := by
        rw [hbytes, Int.mul_comm]; exact hbig
      have := run_make (P := P) w t e it v hu hit hitz .i64 .i64 (n : Int) (n : Int) h0 (Int.le_refl _) hbig' (by omega)
      have hits : it.size = size := by omega
      simp only [Int.toNat_natCast, hits] at this
      simp only [execOp, ho, hln', hcp', Sem.run_bind, this]
      rfl
    · cases hg
  · cases hg

end
end Go.Ev
/- A run of the model follows the evaluator: append; comparisons. -/
set_option linter.unusedVariables false
set_option linter.unusedSimpArgs false
namespace Go.Ev
open Go.RowKit

section
variable {P : Program} {C : FuncId → Option Con}

theorem Rel.congr {O : Nat → Prop} {w0 : World} {F0 : FZ} {M0 : MP} {D : List Deferred} {U : Nat → Prop} {F : FZ} {m : MP} {sz : Nat} {tm : TM} {st st' : ST} {a : Act} {w : World}
    (h : Rel O w0 F0 M0 D U F m sz tm st a w) (hl : ∀ j, look st' j = look st j) : Rel O w0 F0 M0 D U F m sz tm st' a w := by
  have hal : ∀ b, aliveB st' b → aliveB st b := by rintro b ⟨x, hx, h0⟩; exact ⟨x, by rw [← hl]; exact hx, h0⟩
  exact { h with hst := fun b x hx => h.hst b x (by rw [← hl]; exact hx), inj := fun b b' g c c' a1 a2 => h.inj b b' g c c' (hal b a1) (hal b' a2), fresh := fun b hb => ⟨by rw [hl]; exact (h.fresh b hb).1, (h.fresh b hb).2⟩, nst := h.nst.imp fun L hL => hL.less (fun b _ _ => hal b) fun b x hx => .inr (by rw [← hl]; exact hx) }

/-- A new row, with room to spare. -/
theorem row_new2 {O : Nat → Prop} {w0 : World} {F0 : FZ} {M0 : MP} {D : List Deferred} {U : Nat → Prop} {F : FZ} {m : MP} {sz : Nat} {tm : TM} {st : ST} {a : Act} {w : World} (h : Rel O w0 F0 M0 D U F m sz tm st a w) {id : Nat} (hU : U id)
    {e : TypeId} {size n : Nat} {cs : List V} {arr : Array Value} (hpos : 0 < size) (hc : RCs F w.heap true cs (arr.toList.take cs.length)) (hl : arr.size = n * size) (hn : n ≤ maxLen) :
    Rel O w0 F0 M0 D (fun b => U b ∧ b ≠ id) F (fun b => if b = id then some (w.heap.size, n) else m b) sz tm ((id, .row e size cs 0) :: st) a (w.alloc (.cells arr e)) ∧
    (∀ b y, m b = some y → (fun b => if b = id then some (w.heap.size, n) else m b) b = some y) ∧ Keeps F w.heap (w.alloc (.cells arr e)).heap := by
  refine h.new (id := id) (cap := n) hU (arr := arr) (ty := e) (x := .row e size cs 0) (by simp) ?_
  intro m' hm hid hk hh hno
  exact .inl ⟨_, _, arr, hid, h.own_new, hh, hn, hl, hpos, RCs.mono (fun _ _ e => e) hk _ _ hc, fun j hj => absurd hj (hno j), fun j hj => absurd hj (Nat.not_lt_zero _), Nat.zero_le _⟩

/-- The cells of the second argument of append. -/
theorem src_sound {O : Nat → Prop} {w0 : World} {F0 : FZ} {M0 : MP} {D : List Deferred} {U : Nat → Prop} {F : FZ} {m : MP} {sz : Nat} {tm : TM} {st : ST} {a : Act} {w : World} (h : Rel O w0 F0 M0 D U F m sz tm st a w)
    {c : V} {x : Value} (hx : RV m F w.heap c x) {k : List V → Nat → RM} {K : V → ST → Prop} (hg : (srcR c k).go st K) :
    ∃ new n ad cp xs, (k new n).go st K ∧ x = .slice ad n cp ∧ RCs F w.heap true new xs ∧ (new = [] ∨ ∃ q, ad = some q ∧ ∀ (j : Nat) (u : Value), xs[j]? = some u → w.cell? (q.add j) = some u) := by
  unfold srcR at hg
  split at hg
  · next cs n =>
    obtain ⟨ad, cap, rfl, hnc, hcm, hcs⟩ := hx
    rcases hcs with rfl | ⟨g, off, rfl, hF, hc⟩
    · exact ⟨[], n, ad, cap, [], hg, rfl, trivial, .inl rfl⟩
    · refine ⟨cs, n, _, cap, _, hg, rfl, hc, .inr ⟨_, rfl, fun j u hj => ?_⟩⟩
      rw [Addr.add_lit]
      refine cell?_at ?_
      rw [List.getElem?_take] at hj
      split at hj
      · rwa [List.getElem?_drop] at hj
      · cases hj
  · next b n =>
    simp only [RM.go] at hg
    rcases hx with ⟨g, cap, hm, hnc, rfl⟩ | ⟨rfl, rfl⟩
    rotate_left
    · cases hl : look st b with
      | none => simp [hl] at hg
      | some y =>
        rw [hl] at hg
        cases y with
        | row e size cs p =>
          obtain ⟨hn, hg⟩ := hg
          have hcs : cs = [] := List.eq_nil_of_length_eq_zero (by rw [← hn]; exact Nat.zero_mul _)
          subst hcs
          exact ⟨[], 0, none, 0, [], hg, rfl, trivial, .inl rfl⟩
        | var cs f => cases hg
        | loop r => cases hg
        | mark p => cases hg
        | dead => cases hg
        | nest e e2 s2 cs hole => cases hg
    cases hl : look st b with
    | none => simp [hl] at hg
    | some y =>
      rw [hl] at hg
      cases y with
      | row e size cs p =>
        obtain ⟨hn, hg⟩ := hg
        obtain ⟨g', cap', cur, h1, h2, h3, h4, h5, h6, h7, h8, h9, h10⟩ := RBx.real (h.hst b _ hl) hm
        rw [hm] at h1; cases h1
        refine ⟨cs, n, _, cap, _, hg, rfl, h7, .inr ⟨_, rfl, fun j u hj => ?_⟩⟩
        rw [Addr.add_lit, Nat.zero_add]
        refine cell?_at ?_
        rw [cellsAt_of h3]
        rw [List.getElem?_take] at hj
        split at hj
        · exact hj
        · cases hj
      | var cs f => cases hg
      | loop r => cases hg
      | mark p => cases hg
      | dead => cases hg
      | nest e e2 s2 cs hole => cases hg
  · have hx' : x = .slice none 0 0 := hx
    exact ⟨[], 0, none, 0, [], hg, hx', trivial, .inl rfl⟩
  · next ad cap _ =>
    have hx' : x = .slice ad 0 cap := hx
    exact ⟨[], 0, ad, cap, [], hg, hx', trivial, .inl rfl⟩
  · cases hg

theorem RCs_ones {F : FZ} {H : Array Obj} {cs : List V} {xs : List Value} (h : RCs F H true cs xs) : ∀ u ∈ xs, u.oneCell' = true := by
  intro u hu
  obtain ⟨i, hi⟩ := List.getElem?_of_mem hu
  have hi' : i < cs.length := by rw [RCs_length h]; exact (List.getElem?_eq_some_iff.1 hi).1
  exact ((RCs_iff.1 h).2 i _ u (List.getElem?_eq_getElem hi') hi).2 rfl

theorem append_ok {o : Oper} {s x : Operand} {t u : TypeId} (ho : o.op = .call { callee := .builtin .append, args := #[s, x], argTypes := #[t, u] }) : OpOK P C o := by
  intro O w0 F0 M0 D U F m sz tm st a w id K next Q h hU hd hg hn
  have hs := h.ev s
  have hx := h.ev x
  simp only [ho, opR] at hg
  replace hg : (appendR P id t u (ev tm s) (ev tm x)).go st K := hg
  unfold appendR at hg
  split at hg
  · cases hg
  · next htu =>
    have htu : t = u := Classical.byContradiction htu
    subst htu
    split at hg
    · cases hg
    · next e he =>
      have hu : P.underlying t = some (.slice e) := by simp only [elemOf?] at he; split at he <;> simp_all
      split at hg
      · next size bytes z hsz hby hz =>
        obtain ⟨v, hrun, hzv, hone, it, hit, hitz, hvsz⟩ := zero_run (P := P) (w := w) hz
        have hits : it.size = size := by simpa [szOf, hit] using hsz
        have hitb : it.bytes = bytes := by simpa [bytesOf, hit] using hby
        obtain ⟨new, k, ad, cp, xs, hg, hx', hxs, hcell⟩ := src_sound h hx hg
        obtain ⟨⟨hkl, hpos⟩, hg⟩ := hg
        have hxl : xs.length = k * size := by rw [← RCs_length hxs]; exact hkl.symm
        have hex : ∀ {y : Value} {w' : World}, (Builtin.append_ #[t, t] o.type #[a.eval s, a.eval x]).run P w = .ok y w' → (execOp a.eval o).run P w = .ok (.value y) w' := by
          intro y w' hr
          rw [run_builtin ho]
          simp [builtin, hr]
        split at hg
        · next hb =>
          rw [hb] at hs
          have hs' : a.eval s = .slice none 0 0 := hs
          obtain ⟨⟨hkm, hkb, hk0⟩, hg⟩ := hg
          rcases hcell with rfl | ⟨q, rfl, hq⟩
          · simp only [List.length_nil] at hkl
            rcases Nat.mul_eq_zero.1 hkl with e0 | e0 <;> omega
          · have hr := run_append_nil (P := P) w t o.type e it v hu hit hitz q k cp xs (by rw [hits]; exact hxl) hq hk0 (by unfold maxLen at hkm; omega) (by rw [hitb]; omega)
            have hge := grownCap_ge w k 0 e
            have hcm := grownCap_le_maxLen w k 0 e hkm
            obtain ⟨hR, hm, hk⟩ := row_new2 h.drew hU (id := id) (e := e) (size := size) (n := grownCap w k 0 e) (cs := new) (arr := xs.toArray ++ Builtin.zeroCells v.cells (grownCap w k 0 e - k)) hpos (by
              have : new.length = xs.length := RCs_length hxs
              rw [this]
              show RCs F w.heap true new _
              simpa using hxs) (by
              have h1 : (Builtin.zeroCells v.cells (grownCap w k 0 e - k)).size = (grownCap w k 0 e - k) * size := by rw [size_zeroCells, hvsz, hits]
              rw [Array.size_append, h1, List.size_toArray, hxl, ← Nat.add_mul]
              congr 1; omega) hcm
            refine fin_value (hex (by rw [hs', hx']; exact hr)) (hn _ _ _ _ _ _ (hR.put hd (c := .osl id k) (.inl ⟨w.heap.size, grownCap w k 0 e, by simp, hge, rfl⟩)) hg)
        · next b n hb =>
          rw [hb] at hs
          simp only [RM.go] at hg
          rcases hs with ⟨g, cap, hm, hnc, hs'⟩ | ⟨rfl, hs'⟩
          rotate_left
          · cases hl : look st b with
            | none => simp [hl] at hg
            | some y =>
              rw [hl] at hg
              cases y with
              | row e' size' cs p =>
                simp only at hg
                split at hg
                · next hes =>
                  obtain ⟨rfl, rfl⟩ := hes
                  obtain ⟨⟨hnl, hnk, hnb⟩, hg⟩ := hg
                  simp only [RM.go] at hg
                  have hcs : cs = [] := List.eq_nil_of_length_eq_zero (by rw [← hnl]; exact Nat.zero_mul _)
                  subst hcs
                  have hp0 : p = 0 := by
                    rcases h.hst b _ hl with ⟨_, _, _, _, _, _, _, _, _, _, _, _, h10⟩ | ⟨_, _, h10⟩
                    · simpa using h10
                    · exact h10
                  subst hp0
                  rw [Nat.zero_add] at hnk hnb
                  have hkill := h.drew.kill (b := b) hl
                  by_cases hk0 : k = 0
                  · subst hk0
                    have hnew : new = [] := List.eq_nil_of_length_eq_zero (by rw [← hkl]; exact Nat.zero_mul _)
                    subst hnew
                    have hR := (h.kill hl).virt hU (e := e') (size := size')
                    refine fin_value (hex (y := .slice none 0 0) (w' := w) ?_) (hn _ _ _ _ _ _ (hR.put hd (c := .osl id (0 + 0)) (.inr ⟨rfl, rfl⟩)) hg)
                    rw [hs', hx']
                    have hf : (Builtin.firstCells it.size 0 (.slice ad 0 cp)).run P w = .ok #[] w := by
                      cases ad <;> simp [Builtin.firstCells, loadCells, loadCellsFrom]
                    simp [Builtin.append_, run_underlying hu, sizeOf, typeInfo, hit, Builtin.lenOf, hf, storeCells]
                  · rcases hcell with rfl | ⟨q, rfl, hq⟩
                    · simp only [List.length_nil] at hkl
                      rcases Nat.mul_eq_zero.1 hkl with e0 | e0 <;> omega
                    · have hr := run_append_nil (P := P) w t o.type e' it v hu hit hitz q k cp xs (by rw [hits]; exact hxl) hq (by omega) (by unfold maxLen at hnk; omega) (by rw [hitb]; omega)
                      have hge := grownCap_ge w k 0 e'
                      have hcm := grownCap_le_maxLen w k 0 e' hnk
                      obtain ⟨hR, hm, hk⟩ := row_new2 hkill hU (id := id) (e := e') (size := size') (n := grownCap w k 0 e') (cs := [] ++ new) (arr := xs.toArray ++ Builtin.zeroCells v.cells (grownCap w k 0 e' - k)) hpos (by
                        have : new.length = xs.length := RCs_length hxs
                        rw [List.nil_append, this]
                        show RCs F w.heap true new _
                        simpa using hxs) (by
                        have h1 : (Builtin.zeroCells v.cells (grownCap w k 0 e' - k)).size = (grownCap w k 0 e' - k) * size' := by rw [size_zeroCells, hvsz, hits]
                        rw [Array.size_append, h1, List.size_toArray, hxl, ← Nat.add_mul]
                        congr 1; omega) hcm
                      refine fin_value (hex (by rw [hs', hx']; exact hr)) (hn _ _ _ _ _ _ (hR.put hd (c := .osl id (0 + k)) (.inl ⟨w.heap.size, grownCap w k 0 e', by simp, by omega, by rw [Nat.zero_add]⟩)) hg)
                · cases hg
              | var cs f => cases hg
              | loop r => cases hg
              | mark p => cases hg
              | dead => cases hg
              | nest e e2 s2 cs hole => cases hg
          cases hl : look st b with
          | none => simp [hl] at hg
          | some y =>
            rw [hl] at hg
            cases y with
            | row e' size' cs p =>
              simp only at hg
              split at hg
              · next hes =>
                obtain ⟨rfl, rfl⟩ := hes
                obtain ⟨⟨hnl, hnk, hnb⟩, hg⟩ := hg
                simp only [RM.go] at hg
                obtain ⟨g', cap', cur, h1, h2, h3, h4, h5, h6, h7, h8, h9, h10⟩ := RBx.real (h.hst b _ hl) hm
                rw [hm] at h1; cases h1
                have hbi : b ≠ id := fun e => by subst e; rw [(h.fresh b hU).1] at hl; cases hl
                have hcl : cs.length ≤ cur.size := by rw [h5, ← hnl]; exact Nat.mul_le_mul_right _ hnc
                have holds : ∀ (j : Nat) (u : Value), (cur.toList.take (n * size'))[j]? = some u → w.cell? ((⟨g, 0, none⟩ : Addr).add j) = some u := by
                  intro j u hj
                  rw [Addr.add_lit, Nat.zero_add]
                  refine cell?_at ?_
                  rw [cellsAt_of h3]
                  rw [List.getElem?_take] at hj
                  split at hj
                  · exact hj
                  · cases hj
                by_cases hroom : n + k ≤ cap
                · -- in place
                  by_cases hnew : new = []
                  · subst hnew
                    have hk0 : k = 0 := by
                      simp only [List.length_nil] at hkl
                      rcases Nat.mul_eq_zero.1 hkl with e0 | e0 <;> omega
                    subst hk0
                    obtain ⟨hR, hmm⟩ := h.rename (id := id) (x1 := .row e' size' (cs ++ []) p) hU hl (by simp) (by simp) hm (by
                      intro m' hm' hid
                      rw [List.append_nil]
                      exact .inl ⟨_, _, cur, hid, h2, h3, h4, h5, h6, h7, h8, h9, h10⟩)
                    refine fin_value (hex (y := .slice (some ⟨g, 0, none⟩) n cap) (w' := w) ?_) (hn _ _ _ _ _ _ (hR.put hd (c := .osl id (n + 0)) (.inl ⟨g, cap, by simp, hnc, rfl⟩)) hg)
                    rw [hs', hx']
                    have hf : (Builtin.firstCells it.size 0 (.slice ad 0 cp)).run P w = .ok #[] w := by
                      cases ad <;> simp [Builtin.firstCells, loadCells, loadCellsFrom]
                    simp [Builtin.append_, run_underlying hu, sizeOf, typeInfo, hit, Builtin.lenOf, hnc, hf, storeCells]
                  · rcases hcell with e0 | ⟨q, rfl, hq⟩
                    · exact absurd e0 hnew
                    have hr := run_append_room (P := P) w t o.type e' it hu hit g n cap cur h3 q k cp xs (by rw [hits]; exact hxl) hq (RCs_ones hxs) hroom (by rw [hits, hxl, ← Nat.add_mul, h5]; exact Nat.mul_le_mul_right _ hroom)
                    rw [hits, hxl, ← Nat.add_mul] at hr
                    have hlen2 : n * size' + xs.length ≤ cur.toList.length := by rw [hxl, ← Nat.add_mul, Array.length_toList, h5]; exact Nat.mul_le_mul_right _ hroom
                    have hsp := splice_get cur.toList xs (n * size') (k * size') hxl (by rw [← hxl]; exact hlen2)
                    rw [← Nat.add_mul] at hsp
                    obtain ⟨hR0, hk0⟩ := h.store (x1 := .row e' size' (cs ++ new) p) (arr' := (cur.toList.take (n * size') ++ xs ++ cur.toList.drop ((n + k) * size')).toArray) hl (by simp) (by simp) hm h2 h3
                      (fun j hj => by
                        have := h8 j hj
                        show (_ ++ _ ++ _)[j]? = _
                        rw [hsp j, if_pos (by omega)])
                      (fun hk hh => by
                        refine .inl ⟨_, _, _, hm, h2, hh, h4, ?_, h6, ?_, h8, h9, by simp; omega⟩
                        · simp only [List.size_toArray, List.length_append, List.length_take, List.length_drop, Array.length_toList, hxl, h5]
                          have e1 : n * size' ≤ cap * size' := Nat.mul_le_mul_right _ hnc
                          have e2 : (n + k) * size' ≤ cap * size' := Nat.mul_le_mul_right _ hroom
                          rw [Nat.add_mul] at e2 ⊢
                          omega
                        · have e3 := RCs_append (RCs.mono (fun _ _ e => e) hk _ _ h7) (RCs.mono (fun _ _ e => e) hk _ _ hxs)
                          refine Eq.mp (congrArg (RCs F _ true _) ?_) e3
                          have e5 : (cs ++ new).length = n * size' + xs.length := by rw [List.length_append, ← hnl, RCs_length hxs]
                          rw [e5, ← hnl]
                          simp only [List.toList_toArray]
                          have e4 : (cur.toList.take (n * size') ++ xs).length = n * size' + xs.length := by
                            rw [List.length_append, List.length_take]
                            omega
                          exact (List.take_left' e4).symm)
                    obtain ⟨hR, hmm⟩ := hR0.rename (id := id) (x1 := .row e' size' (cs ++ new) p) hU (by rw [look_cons, if_pos rfl]) (by simp) (by simp) hm (by
                      intro m' hm' hid
                      obtain ⟨g2, cap2, cur2, q1, q2, q3, q4, q5, q6, q7, q8, q9, q10⟩ := RBx.real (hR0.hst b _ (by rw [look_cons, if_pos rfl])) hm
                      rw [hm] at q1; cases q1
                      exact .inl ⟨_, _, cur2, hid, q2, q3, q4, q5, q6, q7, q8, q9, q10⟩)
                    have hR2 := hR.congr (st' := (id, .row e' size' (cs ++ new) p) :: (b, .dead) :: st) (by
                      intro j
                      simp only [look_cons]
                      by_cases e1 : id = j
                      · simp [e1]
                      · by_cases e2 : b = j <;> simp [e1, e2])
                    exact fin_value (hex (by rw [hs', hx']; exact hr)) (hn _ _ _ _ _ _ (hR2.put hd (c := .osl id (n + k)) (.inl ⟨g, cap, by simp, hroom, rfl⟩)) hg)
                · -- a new block
                  rcases hcell with rfl | ⟨q, rfl, hq⟩
                  · have hk0 : k = 0 := by
                      simp only [List.length_nil] at hkl
                      rcases Nat.mul_eq_zero.1 hkl with e0 | e0 <;> omega
                    omega
                  have hlo : (cur.toList.take (n * size')).length = n * size' := by
                    rw [List.length_take, Array.length_toList]; omega
                  have hr := run_append_grow (P := P) w t o.type e' it v hu hit hitz ⟨g, 0, none⟩ n cap (cur.toList.take (n * size')) (by rw [hits]; exact hlo) holds q k cp xs (by rw [hits]; exact hxl) hq (by omega) (by unfold maxLen at hnk; omega)
                    (growslice_fits (by omega) (by rw [hitb]; exact hnb))
                  have hge := grownCap_ge w (n + k) cap e'
                  have hcm := grownCap_le_maxLen w (n + k) cap e' hnk
                  have hkill := (h.drew.kill (b := b) hl)
                  obtain ⟨hR, hmm, hk⟩ := row_new2 hkill hU (id := id) (e := e') (size := size') (n := grownCap w (n + k) cap e') (cs := cs ++ new) (arr := (cur.toList.take (n * size')).toArray ++ xs.toArray ++ Builtin.zeroCells v.cells (grownCap w (n + k) cap e' - (n + k))) hpos (by
                    have e5 : (cs ++ new).length = n * size' + xs.length := by rw [List.length_append, ← hnl, RCs_length hxs]
                    rw [e5]
                    have e6 : ((cur.toList.take (n * size')).toArray ++ xs.toArray ++ Builtin.zeroCells v.cells (grownCap w (n + k) cap e' - (n + k))).toList = (cur.toList.take (n * size') ++ xs) ++ (Builtin.zeroCells v.cells (grownCap w (n + k) cap e' - (n + k))).toList := by simp
                    rw [e6, List.take_left' (by rw [List.length_append, hlo])]
                    rw [← hnl] at h7
                    exact RCs_append h7 hxs) (by
                    have h1 : (Builtin.zeroCells v.cells (grownCap w (n + k) cap e' - (n + k))).size = (grownCap w (n + k) cap e' - (n + k)) * size' := by rw [size_zeroCells, hvsz, hits]
                    rw [Array.size_append, Array.size_append, h1, List.size_toArray, List.size_toArray, hlo, hxl, ← Nat.add_mul, ← Nat.add_mul]
                    congr 1; omega) hcm
                  have hbox := hR.hst id _ (by rw [look_cons, if_pos rfl])
                  obtain ⟨g2, cap2, cur2, q1, q2, q3, q4, q5, q6, q7, q8, q9, q10⟩ := RBx.real (g := w.heap.size) (c := grownCap w (n + k) cap e') hbox (by simp)
                  have hfr := hR.freeze (b := id) (n := p) (x0 := .row e' size' (cs ++ new) 0) (x1 := .row e' size' (cs ++ new) p) (by rw [look_cons, if_pos rfl]) (by simp) (by simp) q1 q2
                    (.inl ⟨g2, cap2, cur2, q1, q2, q3, q4, q5, q6, RCs.mono (fun _ _ => .inl) (Keeps.refl _ _) _ _ q7, fun j hj => by
                      rcases hj with hj | ⟨_, hj⟩
                      · exact absurd (q8 j hj) (Nat.not_lt_zero _)
                      · exact hj, fun j hj => .inr ⟨rfl, hj⟩, by simp; omega⟩)
                  have hR2 := hfr.congr (st' := (id, .row e' size' (cs ++ new) p) :: (b, .dead) :: st) (by
                    intro j
                    simp only [look_cons]
                    by_cases e1 : id = j <;> simp [e1])
                  exact fin_value (hex (by rw [hs', hx']; exact hr)) (hn _ _ _ _ _ _ (hR2.put hd (c := .osl id (n + k)) (.inl ⟨w.heap.size, grownCap w (n + k) cap e', by simp, hge, rfl⟩)) hg)
              · cases hg
            | var cs f => cases hg
            | loop r => cases hg
            | mark p => cases hg
            | dead => cases hg
            | nest e e2 s2 cs hole => cases hg
        · cases hg
      · cases hg

theorem copy_ok {o : Oper} {s x : Operand} {t u : TypeId} (ho : o.op = .call { callee := .builtin .copy, args := #[s, x], argTypes := #[t, u] }) : OpOK P C o := by
  intro O w0 F0 M0 D U F m sz tm st a w id K next Q h hU hd hg hn
  have hs := h.ev s
  have hx := h.ev x
  simp only [ho, opR] at hg
  replace hg : (copyR P t (ev tm s) (ev tm x)).go st K := hg
  unfold copyR at hg
  split at hg
  · cases hg
  · next e he =>
    have hu : P.underlying t = some (.slice e) := by simp only [elemOf?] at he; split at he <;> simp_all
    split at hg
    · next b n hsz hb =>
      rw [hb] at hs
      have hsz1 : (P.info? e).map (·.size) = some 1 := by
        cases hq : P.info? e with
        | none => simp [szOf, hq] at hsz
        | some it => simpa [szOf, hq] using hsz
      obtain ⟨new, k, ad, cp, xs, hg, hx', hxs, hcell⟩ := src_sound h hx hg
      obtain ⟨⟨rfl, hnew, hn0⟩, hg⟩ := hg
      rcases hs with ⟨g, cap, hm, hnc, hs'⟩ | ⟨h0, _⟩
      rotate_left
      · omega
      simp only [RM.go] at hg
      have hxl : xs.length = k := by rw [← RCs_length hxs]; exact hnew
      have hex : ∀ {y : Value} {w' : World}, (Builtin.copy_ #[t, u] o.type #[a.eval s, a.eval x]).run P w = .ok y w' → (execOp a.eval o).run P w = .ok (.value y) w' := by
        intro y w' hr
        rw [run_builtin ho]
        simp [builtin, hr]
      cases hl : look st b with
      | none => simp [hl] at hg
      | some y =>
        rw [hl] at hg
        cases y with
        | row e' size cs p =>
          cases p with
          | succ p => cases hg
          | zero =>
            obtain ⟨hlen, hg⟩ := hg
            simp only [RM.go] at hg
            obtain ⟨g', cap', cur, h1, h2, h3, h4, h5, h6, h7, h8, h9, h10⟩ := RBx.real (h.hst b _ hl) hm
            rw [hm] at h1; cases h1
            have hlcur : cs.length ≤ cur.size := by
              have := RCs_length h7
              rw [List.length_take] at this
              simp at this
              omega
            by_cases hk0 : k = 0
            · subst hk0
              have hR := h.congr (st' := (b, .row e' size (new ++ cs.drop 0) 0) :: st) (by
                intro j
                rw [look_cons]
                split
                · next e => subst e; rw [hl, List.eq_nil_of_length_eq_zero hnew]; rfl
                · rfl)
              refine fin_value (hex ?_) (hn F m (.v (.int .i64 0)) _ _ _ ((hR.weakU fun _ e => e.1).put hd (c := .v (.int .i64 0)) (x := goInt 0) rfl) hg)
              rw [hs', hx']
              exact run_copy_none w t u o.type e _ _ _ _ _ _ hu hsz1 rfl
            have hsp := splice_get cur.toList xs 0 k hxl (by simp; omega)
            obtain ⟨hR, hk⟩ := h.store (x1 := .row e' size (new ++ cs.drop k) 0) (arr' := (cur.toList.take 0 ++ xs ++ cur.toList.drop (0 + k)).toArray) hl (by simp) (by simp) hm h2 h3
              (fun j hj => absurd (h8 j hj) (Nat.not_lt_zero _))
              (fun hk hh => by
                refine .inl ⟨_, _, _, hm, h2, hh, h4, ?_, h6, ?_, h8, h9, Nat.zero_le _⟩
                · rw [← h5]
                  simp only [List.size_toArray, List.length_append, List.length_take, List.length_drop, Array.length_toList]
                  omega
                · have e3 := RCs_append (RCs.mono (fun _ _ e => e) hk _ _ hxs) (RCs_drop (RCs.mono (fun _ _ e => e) hk _ _ h7) k)
                  refine Eq.mp (congrArg (RCs F _ true _) ?_) e3
                  have e4 : (new ++ cs.drop k).length = cs.length := by
                    simp only [List.length_append, List.length_drop]; omega
                  rw [e4]
                  apply List.ext_getElem?
                  intro j
                  rw [List.getElem?_take, hsp j]
                  by_cases q1 : j < k
                  · rw [List.getElem?_append_left (by omega)]
                    simp [q1, show j < cs.length by omega]
                  · rw [List.getElem?_append_right (by omega), List.getElem?_drop, List.getElem?_take, hxl, show k + (j - k) = j by omega]
                    simp [q1])
            refine fin_value (hex ?_) (hn F m (.v (.int .i64 k)) _ _ _ ((hR.weakU fun _ e => e.1).put hd (c := .v (.int .i64 k)) (x := goInt k) rfl) hg)
            rw [hs', hx']
            rcases hcell with e0 | ⟨q, rfl, hq⟩
            · subst e0
              exact absurd hnew.symm hk0
            · have hr := run_copy_row (P := P) w t u o.type e g 0 k cap q k cp cur e' xs hu hsz1 h3 (by simp [hxl]) hq (by simp; omega) (RCs_ones hxs)
              rw [hxl] at hr
              exact hr
        | var cs f => cases hg
        | loop r => cases hg
        | mark p => cases hg
        | dead => cases hg
        | nest e e2 s2 cs hole => cases hg
    · cases hg

end
end Go.Ev
/- A run of the model follows the evaluator: comparisons; calls. -/
set_option linter.unusedVariables false
set_option linter.unusedSimpArgs false
namespace Go.Ev
open Go.RowKit

section
variable {P : Program} {C : FuncId → Option Con}

theorem eqCells_append : ∀ {k j : List Bool} {cs ds : List V} {r : Bool}, eqCells (k ++ j) cs ds = some r →
    ∃ r1 r2, eqCells k (cs.take k.length) (ds.take k.length) = some r1 ∧ eqCells j (cs.drop k.length) (ds.drop k.length) = some r2 ∧ r = (r1 && r2)
  | [], j, cs, ds, r, h => ⟨true, r, rfl, h, by simp⟩
  | b :: k, j, [], ds, r, h => by simp [eqCells] at h
  | b :: k, j, _ :: _, [], r, h => by simp [eqCells] at h
  | b :: k, j, c :: cs, d :: ds, r, h => by
    simp only [List.cons_append, eqCells] at h
    split at h
    · next p q h1 h2 =>
      cases h
      obtain ⟨r1, r2, e1, e2, e3⟩ := eqCells_append h2
      refine ⟨p && r1, r2, by simp [eqCells, h1, e1], by simpa using e2, by rw [e3, Bool.and_assoc]⟩
    · cases h

theorem eqCells_length : ∀ {k : List Bool} {a c : List V} {r : Bool}, eqCells k a c = some r → a.length = k.length ∧ c.length = k.length
  | [], [], [], _, _ => ⟨rfl, rfl⟩
  | [], [], _ :: _, _, h => by simp [eqCells] at h
  | [], _ :: _, _, _, h => by simp [eqCells] at h
  | _ :: _, [], _, _, h => by simp [eqCells] at h
  | _ :: _, _ :: _, [], _, h => by simp [eqCells] at h
  | b :: k, x :: a, y :: c, r, h => by
    simp only [eqCells] at h
    split at h
    · next p q h1 h2 => simp [eqCells_length h2]
    · cases h

/-- These cells stand in xs from off on. -/
def Stand (cs : List V) (xs : Array Value) (off : Nat) : Prop := ∀ (i : Nat) (y : Value), cs[i]? = some (.v y) → xs[off + i]? = some y

theorem eqCell_int {x y : Value} {r : Bool} (h : eqCell true (.v x) (.v y) = some r) : ∃ k a b, x = .int k a ∧ y = .int k b ∧ r = (a == b) := by
  cases x <;> cases y <;> simp [eqCell] at h
  next j a k b => exact ⟨k, a, b, by rw [h.1], rfl, h.2.symm⟩

theorem eqCell_bool {x y : Value} {r : Bool} (h : eqCell false (.v x) (.v y) = some r) : ∃ a b, x = .bool a ∧ y = .bool b ∧ r = (a == b) := by
  cases x <;> cases y <;> simp [eqCell] at h
  next a b => exact ⟨a, b, rfl, rfl, h.symm⟩

/-- Values of such a type are compared cell by cell. -/
def FlatOK (P : Program) (d : Nat) (t : TypeId) (k : List Bool) : Prop := ∀ (D : Nat), d ≤ D → ∀ (xs ys : Array Value) (off : Nat) (cs ds : List V) (r : Bool) (w : World), eqCells k cs ds = some r → Stand cs xs off → Stand ds ys off → szOf P t = some k.length →
  ∃ vx vy, (part t xs off).run P w = .ok vx w ∧ (part t ys off).run P w = .ok vy w ∧ (Op.equalIn D t vx vy).run P w = .ok r w

theorem flatFs_ok {d : Nat} (ih : ∀ t k, flatOf P d t = some k → FlatOK P d t k) : ∀ (fs : List Field) (n : Nat) (k : List Bool), flatFs P (flatOf P d) fs n = some k → ∀ (D : Nat), d ≤ D → ∀ (X Y : Array Value) (cs ds : List V) (r : Bool) (w : World),
    eqCells k cs ds = some r → Stand cs X n → Stand ds Y n → (Op.eqFields D X Y fs).run P w = .ok r w
  | [], n, k, h => by
    cases h
    intro D hD X Y cs ds r w he _ _
    obtain ⟨h1, h2⟩ := eqCells_length he
    simp at h1 h2
    subst h1 h2
    cases he
    simp [Op.eqFields]
  | f :: fs, n, k, h => by
    simp only [flatFs] at h
    split at h
    · cases h
    · next hf =>
      have hname : f.name ≠ "_" := fun e => hf (.inl e)
      have hoff : f.offset = n := Classical.byContradiction fun e => hf (.inr e)
      split at h
      · next j hj =>
        split at h
        · next hs =>
          simp only [Option.map_eq_some_iff] at h
          obtain ⟨k2, hk2, rfl⟩ := h
          intro D hD X Y cs ds r w he hX hY
          obtain ⟨r1, r2, h1, h2, h3⟩ := eqCells_append he
          have st1 : ∀ {l : List V} {Z : Array Value}, Stand l Z n → Stand (l.take j.length) Z n := by
            intro l Z hZ i y hy
            rw [List.getElem?_take] at hy
            split at hy
            · exact hZ _ y hy
            · cases hy
          have st2 : ∀ {l : List V} {Z : Array Value}, Stand l Z n → Stand (l.drop j.length) Z (n + j.length) := by
            intro l Z hZ i y hy
            rw [List.getElem?_drop] at hy
            have := hZ _ y hy
            rwa [← Nat.add_assoc] at this
          obtain ⟨vx, vy, p1, p2, p3⟩ := ih f.type j hj D hD X Y n _ _ r1 w h1 (st1 hX) (st1 hY) hs
          have hrest := flatFs_ok ih fs (n + j.length) k2 hk2 D hD X Y _ _ r2 w h2 (st2 hX) (st2 hY)
          simp only [Op.eqFields, ne_eq, hname, not_false_eq_true, if_true, Sem.run_bind, hoff, p1, p2, p3, Result.andThen_ok]
          cases r1
          · simp [h3]
          · simp only [Bool.not_true, Bool.false_eq_true, if_false]
            rw [hrest]
            simp [h3]
        · cases h
      · cases h

theorem flat_ok : ∀ (d : Nat) (t : TypeId) (k : List Bool), flatOf P d t = some k → FlatOK P d t k
  | 0, _, _, h => by simp [flatOf] at h
  | d + 1, t, k, h => by
    intro D hD xs ys off cs ds r w he hx hy hsz
    obtain ⟨D, rfl⟩ : ∃ D', D = D' + 1 := ⟨D - 1, by omega⟩
    have leaf : ∀ {b : Bool}, aggOf P t = some false → k = [b] → (∀ c e x y, eqCell b c e = some r → c = .v x → e = .v y → (Op.equalIn (D + 1) t x y).run P w = .ok r w) →
        ∃ vx vy, (part t xs off).run P w = .ok vx w ∧ (part t ys off).run P w = .ok vy w ∧ (Op.equalIn (D + 1) t vx vy).run P w = .ok r w := by
      intro b ha hk heq
      subst hk
      obtain ⟨h1, h2⟩ := eqCells_length he
      obtain ⟨c, rfl⟩ : ∃ c, cs = [c] := by
        match cs, h1 with
        | [c], _ => exact ⟨c, rfl⟩
      obtain ⟨e, rfl⟩ : ∃ e, ds = [e] := by
        match ds, h2 with
        | [e], _ => exact ⟨e, rfl⟩
      simp only [eqCells] at he
      split at he
      · next p q h1 h2 =>
        cases h2
        cases he
        rw [Bool.and_true] at heq ⊢
        obtain ⟨x, y, rfl, rfl⟩ : ∃ x y, c = .v x ∧ e = .v y := by
          unfold eqCell at h1
          split at h1 <;> first | exact ⟨_, _, rfl, rfl⟩ | cases h1
        have e1 := hx 0 x rfl
        have e2 := hy 0 y rfl
        rw [Nat.add_zero] at e1 e2
        exact ⟨x, y, by simp [part, isAgg_run ha, e1], by simp [part, isAgg_run ha, e2], heq _ _ x y h1 rfl rfl⟩
      · cases he
    simp only [flatOf] at h
    split at h
    · next kk hu =>
      cases h
      refine leaf (by simp [aggOf, hu]) rfl ?_
      rintro c e x y hc rfl rfl
      obtain ⟨k', a, b, rfl, rfl, rfl⟩ := eqCell_int hc
      exact run_equalIn_int w D t k' kk a b hu
    · next hu =>
      cases h
      refine leaf (by simp [aggOf, hu]) rfl ?_
      rintro c e x y hc rfl rfl
      obtain ⟨a, b, rfl, rfl, rfl⟩ := eqCell_bool hc
      exact run_equalIn_bool w D t a b hu
    · next fs hu =>
      split at h
      · cases h
      · next hst =>
        have hst' : P.stoodInHeld t = false := by simpa using hst
        have hf := flatFs_ok (flat_ok d) fs.toList 0 k h
        have ha : aggOf P t = some true := by simp [aggOf, hu]
        have hfo : P.fieldsOf t = fs := by simp [Program.fieldsOf, hu]
        have stx : ∀ {l : List V} {Z : Array Value}, l.length = k.length → Stand l Z off → Stand l (Z.extract off (off + k.length)) 0 := by
          intro l Z hl hZ i y hy
          have hi : i < l.length := (List.getElem?_eq_some_iff.1 hy).1
          have := hZ i y hy
          have hlt : off + i < Z.size := (Array.getElem?_eq_some_iff.1 this).1
          rw [Nat.zero_add, Array.getElem?_extract, if_pos (by omega)]
          exact this
        obtain ⟨l1, l2⟩ := eqCells_length he
        refine ⟨.agg (xs.extract off (off + k.length)), .agg (ys.extract off (off + k.length)), by simp [part, isAgg_run ha, sz_run hsz], by simp [part, isAgg_run ha, sz_run hsz], ?_⟩
        rw [run_equalIn_struct w D t _ _ (by rw [hfo]; exact hu) hst', hfo]
        exact hf D (by omega) _ _ cs ds r w he (stx l1 hx) (stx l2 hy)
    · cases h
theorem eql_slice_nil (w : World) (t e : TypeId) (a : Option Addr) (l c : Nat) (h : P.underlying t = some (.slice e)) : (binOp .eql t (.slice a l c) (.slice none 0 0)).run P w = .ok (.bool a.isNone) w := by
  simp only [binOp]
  simp [run_equal_slice_nil w t e a l c h]

theorem binOp_ok {o : Oper} {op : BinOp} {t u : TypeId} {x y : Operand} (ho : o.op = .binOp op t x y u) : OpOK P C o := by
  intro O w0 F0 M0 D U F m sz tm st a w id K next Q h hU hd hg hn
  have hx := h.ev x
  have hy := h.ev y
  simp only [ho, opR] at hg
  split at hg
  · next k i j k2 hb hc =>
    rw [hb] at hx; rw [hc] at hy
    have hx' : a.eval x = .int k i := hx
    have hy' : a.eval y = .int j k2 := hy
    split at hg
    · next hk =>
      obtain ⟨v, hr, hkk⟩ := intBin_ok (P := P) hk hg t w
      refine done_pure h hd hn (c := .v v) (x := v) ?_ rfl (by rw [RM.retF_eq]; exact hkk)
      simp [execOp, ho, hx', hy', eqGuard_int, hr]
    · cases hg
  · next b n hb hc =>
    rw [hb] at hx; rw [hc] at hy
    rcases hx with ⟨g, cap, _, _, hx'⟩ | ⟨h0, _⟩
    rotate_left
    · omega
    have hy' : a.eval y = .slice none 0 0 := hy
    split at hg
    · next e hu =>
      refine done_pure h hd hn (c := .v (.bool false)) (x := .bool false) ?_ rfl hg
      simp [execOp, ho, hx', hy', eqGuard_at_slice, eql_slice_nil w t e _ _ _ hu]
    · next e hu =>
      refine done_pure h hd hn (c := .v (.bool true)) (x := .bool true) ?_ rfl hg
      simp [execOp, ho, hx', hy', eqGuard_at_slice, run_neq_slice_nil w t e _ _ _ hu]
    · cases hg
  · next c cs n hb hc =>
    rw [hb] at hx; rw [hc] at hy
    obtain ⟨ad, cap, hx', _, _, hcs⟩ := hx
    have hy' : a.eval y = .slice none 0 0 := hy
    rcases hcs with h0 | ⟨g, off, rfl, _, _⟩
    · cases h0
    split at hg
    · next e hu =>
      refine done_pure h hd hn (c := .v (.bool false)) (x := .bool false) ?_ rfl hg
      simp [execOp, ho, hx', hy', eqGuard_at_slice, eql_slice_nil w t e _ _ _ hu]
    · next e hu =>
      refine done_pure h hd hn (c := .v (.bool true)) (x := .bool true) ?_ rfl hg
      simp [execOp, ho, hx', hy', eqGuard_at_slice, run_neq_slice_nil w t e _ _ _ hu]
    · cases hg
  · next hb hc =>
    rw [hb] at hx; rw [hc] at hy
    have hx' : a.eval x = .slice none 0 0 := hx
    have hy' : a.eval y = .slice none 0 0 := hy
    split at hg
    · next e hu =>
      refine done_pure h hd hn (c := .v (.bool true)) (x := .bool true) ?_ rfl hg
      simp [execOp, ho, hx', hy', eqGuard_at_slice, eql_slice_nil w t e _ _ _ hu]
    · next e hu =>
      refine done_pure h hd hn (c := .v (.bool false)) (x := .bool false) ?_ rfl hg
      simp [execOp, ho, hx', hy', eqGuard_at_slice, run_neq_slice_nil w t e _ _ _ hu]
    · cases hg
  · next n c _ hb hc =>
    rw [hb] at hx; rw [hc] at hy
    have hx' : a.eval x = .slice none n c := hx
    have hy' : a.eval y = .slice none 0 0 := hy
    split at hg
    · next e hu =>
      refine done_pure h hd hn (c := .v (.bool true)) (x := .bool true) ?_ rfl hg
      simp [execOp, ho, hx', hy', eqGuard_at_slice, eql_slice_nil w t e _ _ _ hu]
    · next e hu =>
      refine done_pure h hd hn (c := .v (.bool false)) (x := .bool false) ?_ rfl hg
      simp [execOp, ho, hx', hy', eqGuard_at_slice, run_neq_slice_nil w t e _ _ _ hu]
    · cases hg
  · next ad n c hb hc =>
    rw [hb] at hx; rw [hc] at hy
    have hx' : a.eval x = .slice (some ad) n c := hx
    have hy' : a.eval y = .slice none 0 0 := hy
    split at hg
    · next e hu =>
      refine done_pure h hd hn (c := .v (.bool false)) (x := .bool false) ?_ rfl hg
      simp [execOp, ho, hx', hy', eqGuard_at_slice, eql_slice_nil w t e _ _ _ hu]
    · next e hu =>
      refine done_pure h hd hn (c := .v (.bool true)) (x := .bool true) ?_ rfl hg
      simp [execOp, ho, hx', hy', eqGuard_at_slice, run_neq_slice_nil w t e _ _ _ hu]
    · cases hg
  · next p q hb hc =>
    rw [hb] at hx; rw [hc] at hy
    have hx' : a.eval x = .bool p := hx
    have hy' : a.eval y = .bool q := hy
    split at hg
    · next hu =>
      refine done_pure h hd hn (c := .v (.bool (p == q))) (x := .bool (p == q)) ?_ rfl hg
      have := run_equalIn_bool (P := P) w 9999 t p q hu
      simp [execOp, ho, hx', hy', eqGuard_at_bool, binOp, Op.equal, Op.maxDepth, this]
    · next hu =>
      refine done_pure h hd hn (c := .v (.bool (!(p == q)))) (x := .bool (!(p == q))) ?_ rfl hg
      have := run_equalIn_bool (P := P) w 9999 t p q hu
      simp [execOp, ho, hx', hy', eqGuard_at_bool, binOp, Op.equal, Op.maxDepth, this]
    · cases hg
  · next cs ds hb hc =>
    rw [hb] at hx; rw [hc] at hy
    obtain ⟨xs, hx', hxs⟩ := hx
    obtain ⟨ys, hy', hys⟩ := hy
    split at hg
    · next ks hks hgd hagg =>
      split at hg
      · next r hr =>
        have stand : ∀ {cs : List V} {xs : Array Value}, RCs F w.heap true cs xs.toList → Stand cs xs 0 := by
          intro cs xs h i y hy
          have hl := RCs_length h
          have hi : i < cs.length := (List.getElem?_eq_some_iff.1 hy).1
          have hxi : xs.toList[i]? = some (xs.toList[i]'(by omega)) := List.getElem?_eq_getElem (by omega)
          have := ((RCs_iff.1 h).2 i _ _ hy hxi).1
          have e : xs.toList[i]'(by omega) = y := this
          rw [Nat.zero_add, ← Array.getElem?_toList, hxi, e]
        have hfs : ∃ fs, P.underlying t = some (.struct fs) := by
          simp only [flatOf] at hks
          split at hks
          · next hu => simp [aggOf, hu] at hagg
          · next hu => simp [aggOf, hu] at hagg
          · next fs hu => exact ⟨fs, hu⟩
          · cases hks
        obtain ⟨fs, hu⟩ := hfs
        have heq : (Op.equalIn 10000 t (.agg xs) (.agg ys)).run P w = .ok r w := by
          have hst : P.stoodInHeld t = false := by
            simp only [flatOf, hu] at hks
            split at hks
            · cases hks
            · next hst => simpa using hst
          have hf : flatFs P (flatOf P 8) fs.toList 0 = some ks := by
            simp only [flatOf, hu] at hks
            split at hks
            · cases hks
            · exact hks
          have hfo : P.fieldsOf t = fs := by simp [Program.fieldsOf, hu]
          rw [run_equalIn_struct w 9999 t _ _ (by rw [hfo]; exact hu) hst, hfo]
          exact flatFs_ok (flat_ok 8) fs.toList 0 ks hf 9999 (by omega) xs ys cs ds r w hr (stand hxs) (stand hys)
        have hgd' : ∀ op', (eqGuard op' t x y (.agg xs) (.agg ys)).run P w = .ok () w := fun op' => run_eqGuard_agg w op' t x y xs ys hgd
        split at hg
        · refine done_pure h hd hn (c := .v (.bool r)) (x := .bool r) ?_ rfl hg
          simp [execOp, ho, hx', hy', hgd', run_eql_struct, heq]
        · refine done_pure h hd hn (c := .v (.bool (!r))) (x := .bool (!r)) ?_ rfl hg
          simp [execOp, ho, hx', hy', hgd', run_neq_struct, heq]
        · cases hg
      · cases hg
    · cases hg
  · cases hg

/-- The function does what its contract says; the boxes are its own. -/
def SoundV (P : Program) (f : FuncId) (c : Con) : Prop := ∀ (x : c.α) (F : FZ) (w : World) (vs : List Value), (∀ g j, F g j → g < w.heap.size) → RCs F w.heap false (c.enc x) vs → c.ok x →
  Calls P f vs.toArray w fun e w' => ∃ v F', e = .returned v ∧ Below w.heap.size w w' ∧ (∀ g j, F g j → F' g j) ∧ (∀ g j, F' g j → F g j ∨ w.heap.size ≤ g) ∧ (∀ g j, F' g j → g < w'.heap.size) ∧ RC F' w'.heap (c.res x) v

/-- What a call with boxes handed over may write. -/
def Handed (m : MP) (w : World) (g : Nat) : Prop := (∃ b k, m b = some (g, k)) ∨ w.heap.size ≤ g

/-- The function does what its contract says, also to the boxes that are handed over. -/
def SoundE (P : Program) (f : FuncId) (c : Con) (e : Eff c.α) : Prop := ∀ (x : c.α) (m : MP) (F : FZ) (w : World) (vs : List Value), (∀ g j, F g j → g < w.heap.size) →
  (∀ b g k, m b = some (g, k) → b < (e.pre x).length ∧ g < w.heap.size) → (c.enc x).length = vs.length → (∀ (i : Nat) (v : V) (y : Value), (c.enc x)[i]? = some v → vs[i]? = some y → RV m F w.heap v y) →
  (∀ (i : Nat) (p : Bx), (e.pre x)[i]? = some p → RBx (Handed m w) m F w.heap i p ∧ isNest p = false) → (∀ b b' g k k', m b = some (g, k) → m b' = some (g, k') → b = b') → c.ok x →
  Calls P f vs.toArray w fun en w' => ∃ v F' m', en = .returned v ∧ Own (Handed m w) w w' ∧ Keeps F w.heap w'.heap ∧ (∀ b y, m b = some y → m' b = some y) ∧ (∀ g j, F g j → F' g j) ∧ (∀ g j, F' g j → F g j ∨ Handed m w g) ∧
    (∀ g j, F' g j → g < w'.heap.size) ∧ RC F' w'.heap (c.res x) v ∧ ∀ (i : Nat) (p : Bx), (e.post x)[i]? = some p → RBx (Handed m w) m' F' w'.heap i p

/-- A list that a call has made, and that nothing else leads to. -/
def FreshV (F' : FZ) (k : Nat) (H : Array Obj) (e : TypeId) (size : Nat) (cs : List V) (n : Nat) (v : Value) : Prop :=
  (∃ g cap cur, k ≤ g ∧ v = .slice (some ⟨g, 0, none⟩) n cap ∧ n ≤ cap ∧ cap ≤ maxLen ∧ g < H.size ∧ H[g]? = some (.cells cur e (0, 0)) ∧ cur.size = cap * size ∧ 0 < size ∧ RCs F' H true cs (cur.toList.take cs.length) ∧ ∀ j, ¬ F' g j) ∨
  (v = .slice none 0 0 ∧ n = 0 ∧ cs = [])

/-- The function makes the list that its contract says. -/
def SoundF (P : Program) (f : FuncId) (c : Con) (e : TypeId) (size : Nat) : Prop := ∀ (x : c.α) (F : FZ) (w : World) (vs : List Value) (cs : List V) (n : Nat), (∀ g j, F g j → g < w.heap.size) → RCs F w.heap false (c.enc x) vs → c.ok x → c.res x = .sl cs n →
  Calls P f vs.toArray w fun en w' => ∃ v F', en = .returned v ∧ Below w.heap.size w w' ∧ (∀ g j, F g j → F' g j) ∧ (∀ g j, F' g j → F g j ∨ w.heap.size ≤ g) ∧ (∀ g j, F' g j → g < w'.heap.size) ∧ FreshV F' w.heap.size w'.heap e size cs n v

/-- A value whose cell i is a list that a call has made, and that nothing else leads to. -/
def FreshAV (F' : FZ) (k : Nat) (H : Array Obj) (i : Nat) (e : TypeId) (size : Nat) (cs0 cs : List V) (n : Nat) (v : Value) : Prop :=
  ∃ arr y, v = .agg arr ∧ cs0.length = arr.toList.length ∧ (∀ (j : Nat) (c : V) (y : Value), j ≠ i → cs0[j]? = some c → arr.toList[j]? = some y → RC F' H c y ∧ y.oneCell' = true) ∧ arr.toList[i]? = some y ∧ FreshV F' k H e size cs n y

/-- The function makes the value that its contract says, with a new list in its cell i. -/
def SoundA (P : Program) (f : FuncId) (c : Con) (i : Nat) (e : TypeId) (size : Nat) : Prop := ∀ (x : c.α) (F : FZ) (w : World) (vs : List Value) (cs0 cs : List V) (n : Nat), (∀ g j, F g j → g < w.heap.size) → RCs F w.heap false (c.enc x) vs → c.ok x → c.res x = .agg cs0 → cs0[i]? = some (.sl cs n) →
  Calls P f vs.toArray w fun en w' => ∃ v F', en = .returned v ∧ Below w.heap.size w w' ∧ (∀ g j, F g j → F' g j) ∧ (∀ g j, F' g j → F g j ∨ w.heap.size ≤ g) ∧ (∀ g j, F' g j → g < w'.heap.size) ∧ FreshAV F' w.heap.size w'.heap i e size cs0 cs n v

/-- The function does what its contract says. -/
def Sound (P : Program) (f : FuncId) (c : Con) : Prop := match c.eff, c.frs with
  | none, .keep => SoundV P f c
  | none, .lend => SoundV P f c ∧ ∀ (x : c.α) F H v F2 H2, RC F H (c.res x) v → RC F2 H2 (c.res x) v
  | none, .fresh e size => SoundF P f c e size
  | none, .lendF e size => SoundF P f c e size ∧ ∀ (x : c.α) cs n F H xs F2 H2, c.res x = .sl cs n → RCs F H true cs xs → RCs F2 H2 true cs xs
  | none, .freshA i e size => SoundA P f c i e size
  | some e, _ => SoundE P f c e

end
end Go.Ev
