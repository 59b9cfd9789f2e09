/- A part of the proof of RiverRunoff. -/
import Derived.Carry
import Derived.OpenShut
import Derived.ProofKit
import Derived.SizedLaws
import Derived.Test.YtbmnmappihnjgaaW5
/- What is handed to a law, read az values without memory. -/
set_option linter.unusedVariables false
set_option linter.unusedSimpArgs false
namespace Go.Ev
open Go.RowKit Go.ChangeShapes

def All2 {α β : Type} (R : α → β → Prop) : List α → List β → Prop
  | [], [] => True
  | a :: az, b :: bs => R a b ∧ All2 R az bs
  | _, _ => False

theorem all2_1 {α β : Type} {R : α → β → Prop} {x0 : α} {ls : List β} (h : All2 R [x0] ls) : ∃ a0, ls = [a0] ∧ R x0 a0 := by
  match ls, h with
  | [a0], ⟨h0, _⟩ => exact ⟨a0, rfl, h0⟩

theorem all2_2 {α β : Type} {R : α → β → Prop} {x0 x1 : α} {ls : List β} (h : All2 R [x0, x1] ls) : ∃ a0 a1, ls = [a0, a1] ∧ R x0 a0 ∧ R x1 a1 := by
  match ls, h with
  | [a0, a1], ⟨h0, h1, _⟩ => exact ⟨a0, a1, rfl, h0, h1⟩

theorem all2_3 {α β : Type} {R : α → β → Prop} {x0 x1 x2 : α} {ls : List β} (h : All2 R [x0, x1, x2] ls) : ∃ a0 a1 a2, ls = [a0, a1, a2] ∧ R x0 a0 ∧ R x1 a1 ∧ R x2 a2 := by
  match ls, h with
  | [a0, a1, a2], ⟨h0, h1, h2, _⟩ => exact ⟨a0, a1, a2, rfl, h0, h1, h2⟩

theorem all2_4 {α β : Type} {R : α → β → Prop} {x0 x1 x2 x3 : α} {ls : List β} (h : All2 R [x0, x1, x2, x3] ls) : ∃ a0 a1 a2 a3, ls = [a0, a1, a2, a3] ∧ R x0 a0 ∧ R x1 a1 ∧ R x2 a2 ∧ R x3 a3 := by
  match ls, h with
  | [a0, a1, a2, a3], ⟨h0, h1, h2, h3, _⟩ => exact ⟨a0, a1, a2, a3, rfl, h0, h1, h2, h3⟩

theorem all2_5 {α β : Type} {R : α → β → Prop} {x0 x1 x2 x3 x4 : α} {ls : List β} (h : All2 R [x0, x1, x2, x3, x4] ls) : ∃ a0 a1 a2 a3 a4, ls = [a0, a1, a2, a3, a4] ∧ R x0 a0 ∧ R x1 a1 ∧ R x2 a2 ∧ R x3 a3 ∧ R x4 a4 := by
  match ls, h with
  | [a0, a1, a2, a3, a4], ⟨h0, h1, h2, h3, h4, _⟩ => exact ⟨a0, a1, a2, a3, a4, rfl, h0, h1, h2, h3, h4⟩

theorem all2_6 {α β : Type} {R : α → β → Prop} {x0 x1 x2 x3 x4 x5 : α} {ls : List β} (h : All2 R [x0, x1, x2, x3, x4, x5] ls) : ∃ a0 a1 a2 a3 a4 a5, ls = [a0, a1, a2, a3, a4, a5] ∧ R x0 a0 ∧ R x1 a1 ∧ R x2 a2 ∧ R x3 a3 ∧ R x4 a4 ∧ R x5 a5 := by
  match ls, h with
  | [a0, a1, a2, a3, a4, a5], ⟨h0, h1, h2, h3, h4, h5, _⟩ => exact ⟨a0, a1, a2, a3, a4, a5, rfl, h0, h1, h2, h3, h4, h5⟩

theorem all2_7 {α β : Type} {R : α → β → Prop} {x0 x1 x2 x3 x4 x5 x6 : α} {ls : List β} (h : All2 R [x0, x1, x2, x3, x4, x5, x6] ls) : ∃ a0 a1 a2 a3 a4 a5 a6, ls = [a0, a1, a2, a3, a4, a5, a6] ∧ R x0 a0 ∧ R x1 a1 ∧ R x2 a2 ∧ R x3 a3 ∧ R x4 a4 ∧ R x5 a5 ∧ R x6 a6 := by
  match ls, h with
  | [a0, a1, a2, a3, a4, a5, a6], ⟨h0, h1, h2, h3, h4, h5, h6, _⟩ => exact ⟨a0, a1, a2, a3, a4, a5, a6, rfl, h0, h1, h2, h3, h4, h5, h6⟩

theorem all2_8 {α β : Type} {R : α → β → Prop} {x0 x1 x2 x3 x4 x5 x6 x7 : α} {ls : List β} (h : All2 R [x0, x1, x2, x3, x4, x5, x6, x7] ls) : ∃ a0 a1 a2 a3 a4 a5 a6 a7, ls = [a0, a1, a2, a3, a4, a5, a6, a7] ∧ R x0 a0 ∧ R x1 a1 ∧ R x2 a2 ∧ R x3 a3 ∧ R x4 a4 ∧ R x5 a5 ∧ R x6 a6 ∧ R x7 a7 := by
  match ls, h with
  | [a0, a1, a2, a3, a4, a5, a6, a7], ⟨h0, h1, h2, h3, h4, h5, h6, h7, _⟩ => exact ⟨a0, a1, a2, a3, a4, a5, a6, a7, rfl, h0, h1, h2, h3, h4, h5, h6, h7⟩

theorem all2_9 {α β : Type} {R : α → β → Prop} {x0 x1 x2 x3 x4 x5 x6 x7 x8 : α} {ls : List β} (h : All2 R [x0, x1, x2, x3, x4, x5, x6, x7, x8] ls) : ∃ a0 a1 a2 a3 a4 a5 a6 a7 a8, ls = [a0, a1, a2, a3, a4, a5, a6, a7, a8] ∧ R x0 a0 ∧ R x1 a1 ∧ R x2 a2 ∧ R x3 a3 ∧ R x4 a4 ∧ R x5 a5 ∧ R x6 a6 ∧ R x7 a7 ∧ R x8 a8 := by
  match ls, h with
  | [a0, a1, a2, a3, a4, a5, a6, a7, a8], ⟨h0, h1, h2, h3, h4, h5, h6, h7, h8, _⟩ => exact ⟨a0, a1, a2, a3, a4, a5, a6, a7, a8, rfl, h0, h1, h2, h3, h4, h5, h6, h7, h8⟩

theorem all2_10 {α β : Type} {R : α → β → Prop} {x0 x1 x2 x3 x4 x5 x6 x7 x8 x9 : α} {ls : List β} (h : All2 R [x0, x1, x2, x3, x4, x5, x6, x7, x8, x9] ls) : ∃ a0 a1 a2 a3 a4 a5 a6 a7 a8 a9, ls = [a0, a1, a2, a3, a4, a5, a6, a7, a8, a9] ∧ R x0 a0 ∧ R x1 a1 ∧ R x2 a2 ∧ R x3 a3 ∧ R x4 a4 ∧ R x5 a5 ∧ R x6 a6 ∧ R x7 a7 ∧ R x8 a8 ∧ R x9 a9 := by
  match ls, h with
  | [a0, a1, a2, a3, a4, a5, a6, a7, a8, a9], ⟨h0, h1, h2, h3, h4, h5, h6, h7, h8, h9, _⟩ => exact ⟨a0, a1, a2, a3, a4, a5, a6, a7, a8, a9, rfl, h0, h1, h2, h3, h4, h5, h6, h7, h8, h9⟩

theorem all2_11 {α β : Type} {R : α → β → Prop} {x0 x1 x2 x3 x4 x5 x6 x7 x8 x9 x10 : α} {ls : List β} (h : All2 R [x0, x1, x2, x3, x4, x5, x6, x7, x8, x9, x10] ls) : ∃ a0 a1 a2 a3 a4 a5 a6 a7 a8 a9 a10, ls = [a0, a1, a2, a3, a4, a5, a6, a7, a8, a9, a10] ∧ R x0 a0 ∧ R x1 a1 ∧ R x2 a2 ∧ R x3 a3 ∧ R x4 a4 ∧ R x5 a5 ∧ R x6 a6 ∧ R x7 a7 ∧ R x8 a8 ∧ R x9 a9 ∧ R x10 a10 := by
  match ls, h with
  | [a0, a1, a2, a3, a4, a5, a6, a7, a8, a9, a10], ⟨h0, h1, h2, h3, h4, h5, h6, h7, h8, h9, h10, _⟩ => exact ⟨a0, a1, a2, a3, a4, a5, a6, a7, a8, a9, a10, rfl, h0, h1, h2, h3, h4, h5, h6, h7, h8, h9, h10⟩

theorem all2_12 {α β : Type} {R : α → β → Prop} {x0 x1 x2 x3 x4 x5 x6 x7 x8 x9 x10 x11 : α} {ls : List β} (h : All2 R [x0, x1, x2, x3, x4, x5, x6, x7, x8, x9, x10, x11] ls) : ∃ a0 a1 a2 a3 a4 a5 a6 a7 a8 a9 a10 a11, ls = [a0, a1, a2, a3, a4, a5, a6, a7, a8, a9, a10, a11] ∧ R x0 a0 ∧ R x1 a1 ∧ R x2 a2 ∧ R x3 a3 ∧ R x4 a4 ∧ R x5 a5 ∧ R x6 a6 ∧ R x7 a7 ∧ R x8 a8 ∧ R x9 a9 ∧ R x10 a10 ∧ R x11 a11 := by
  match ls, h with
  | [a0, a1, a2, a3, a4, a5, a6, a7, a8, a9, a10, a11], ⟨h0, h1, h2, h3, h4, h5, h6, h7, h8, h9, h10, h11, _⟩ => exact ⟨a0, a1, a2, a3, a4, a5, a6, a7, a8, a9, a10, a11, rfl, h0, h1, h2, h3, h4, h5, h6, h7, h8, h9, h10, h11⟩

/-- The cells of a value of a type. -/
def Typ (P : Program) : Nat → TypeId → List V → Prop
  | 0, _, _ => False
  | n + 1, t, vs => match P.underlying t with
    | some .bool => ∃ b, vs = [.v (.bool b)]
    | some (.int k) => ∃ i, vs = [.v (.int k i)] ∧ (Lit.int k i).wf = true
    | some .string => ∃ s : ByteArray, vs = [.v (.string s)] ∧ s.size ≤ reachBytes
    | some (.slice e) => ∃ ls : List (List V), vs = [.sl ls.flatten ls.length] ∧ (∀ l ∈ ls, Typ P n e l) ∧ ls.length * P.bytesOf e ≤ reachBytes
    | some (.struct fs) => ∃ ls : List (List V), vs = ls.flatten ∧ All2 (fun (f : Field) l => Typ P n f.type l) fs.toList ls
    | some (.array k e) => ∃ ls : List (List V), vs = ls.flatten ∧ ls.length = k ∧ ∀ l ∈ ls, Typ P n e l
    | _ => False

section
variable {P : Program} {H : Type} {enc : TypeId × Value → H} {W : World}

theorem cells?_eq {g o n : Nat} {l : List Value} (h : W.cells? 0 ⟨g, o, none⟩ n = some l) : ((cellsAt W.heap g).drop o).take n = l ∧ l.length = n := by
  simp only [World.cells?, Nat.zero_le, if_true] at h
  obtain ⟨h1, h2⟩ := mapM_get (f := fun i => W.cell? (Addr.add ⟨g, o, none⟩ i)) h
  have hl : l.length = n := by rw [← h1]; simp
  refine ⟨?_, hl⟩
  apply List.ext_getElem?
  intro i
  by_cases hi : i < n
  · rw [List.getElem?_take, if_pos hi, List.getElem?_drop]
    obtain ⟨v, hv1, hv2⟩ := h2 i i (by simp [hi])
    rw [hv1]
    have e : Addr.add ⟨g, o, none⟩ i = ⟨g, o + i, none⟩ := by
      unfold Addr.add
      split
      · next e => subst e; rfl
      · rfl
    rw [e] at hv2
    unfold World.cell? at hv2
    unfold cellsAt
    split at hv2
    · next c _ _ hh => simp at hv2; simp [hh, hv2]
    · cases hv2
  · rw [List.getElem?_eq_none (by rw [List.length_take]; omega), List.getElem?_eq_none (by omega)]

theorem cells?_lt {g o n : Nat} {l : List Value} (h : W.cells? 0 ⟨g, o, none⟩ n = some l) (hn : 0 < n) : g < W.heap.size := by
  obtain ⟨h1, h2⟩ := cells?_eq h
  refine Decidable.byContradiction fun hc => ?_
  have : cellsAt W.heap g = [] := by unfold cellsAt; rw [Array.getElem?_eq_none (by omega)]
  rw [this] at h1
  simp at h1
  subst h1
  simp at h2
  omega

theorem RCs_append_iff {F : FZ} {Hp : Array Obj} {one : Bool} {cs ds : List V} {xs ys : List Value} (h : RCs F Hp one cs xs) (k : RCs F Hp one ds ys) : RCs F Hp one (cs ++ ds) (xs ++ ys) := RCs_append h k

theorem weightsAll_mem {p : Nat → Bool} {e : TypeId} : ∀ {ds : List (DataW H)}, (DataW.weightsAll P e ds).all p = true → ∀ d ∈ ds, (d.weights P e).all p = true
  | [], _, d, h => by cases h
  | d0 :: ds, h, d, hd => by
    simp only [DataW.weightsAll, List.all_append, Bool.and_eq_true] at h
    cases hd with
    | head => exact h.1
    | tail _ hd => exact weightsAll_mem h.2 d hd

theorem weightsEach_get {p : Nat → Bool} : ∀ {ts : List TypeId} {ds : List (DataW H)}, (DataW.weightsEach P ts ds).all p = true → ∀ (i : Nat) (t : TypeId) (d : DataW H), ts[i]? = some t → ds[i]? = some d → (d.weights P t).all p = true
  | [], _, _, i, t, d, ht, _ => by simp at ht
  | _ :: _, [], _, i, t, d, _, hd => by simp at hd
  | t0 :: ts, d0 :: ds, h, i, t, d, ht, hd => by
    simp only [DataW.weightsEach, List.all_append, Bool.and_eq_true] at h
    cases i with
    | zero => simp at ht hd; subst ht hd; exact h.1
    | succ i => exact weightsEach_get h.2 i t d (by simpa using ht) (by simpa using hd)

theorem pieces {F : FZ} {Hp : Array Obj} {size : Field → Nat} {Q : Field → List V → Prop} : ∀ (fs : List Field) (off : Nat) (cs : List Value), (∀ (j : Nat) (f : Field), fs[j]? = some f → f.offset = off + ((fs.take j).map size).sum) →
    (∀ (j : Nat) (f : Field), fs[j]? = some f → ∃ vs, RCs F Hp true vs ((cs.drop f.offset).take (size f)) ∧ Q f vs) → off + (fs.map size).sum = cs.length → ∃ ls : List (List V), RCs F Hp true ls.flatten (cs.drop off) ∧ All2 Q fs ls
  | [], off, cs, _, _, hl => by
    refine ⟨[], ?_, trivial⟩
    rw [List.drop_of_length_le (by simp at hl; omega)]
    trivial
  | f :: fs, off, cs, ho, hp, hl => by
    obtain ⟨vs, h1, h2⟩ := hp 0 f rfl
    have ho0 : f.offset = off := by have := ho 0 f rfl; simpa using this
    rw [ho0] at h1
    obtain ⟨ls, h3, h4⟩ := pieces fs (off + size f) cs (by
      intro j f' hf
      have := ho (j + 1) f' (by simpa using hf)
      rw [this, List.take_succ_cons, List.map_cons, List.sum_cons]
      omega) (fun j f' hf => hp (j + 1) f' (by simpa using hf)) (by simp at hl; omega)
    refine ⟨vs :: ls, ?_, h2, h4⟩
    rw [List.flatten_cons]
    have : cs.drop off = (cs.drop off).take (size f) ++ cs.drop (off + size f) := by rw [← List.drop_drop, List.take_append_drop]
    rw [this]
    exact RCs_append h1 h3

theorem rows_RCs {F : FZ} {Hp : Array Obj} {L : List Value} {size : Nat} {Q : List V → Prop} : ∀ (n : Nat), (∀ i, i < n → ∃ vs, RCs F Hp true vs ((L.drop (i * size)).take size) ∧ Q vs) →
    ∃ ls : List (List V), ls.length = n ∧ RCs F Hp true ls.flatten (L.take (n * size)) ∧ ∀ l ∈ ls, Q l
  | 0, _ => ⟨[], rfl, by simp [RCs], by simp⟩
  | n + 1, h => by
    obtain ⟨ls, h1, h2, h3⟩ := rows_RCs n fun i hi => h i (by omega)
    obtain ⟨vs, h4, h5⟩ := h n (by omega)
    refine ⟨ls ++ [vs], by simp [h1], ?_, ?_⟩
    · rw [List.flatten_append, Nat.add_mul, Nat.one_mul, List.take_add]
      simpa using RCs_append h2 h4
    · intro l hl
      rcases List.mem_append.1 hl with hl | hl
      · exact h3 l hl
      · simp at hl; subst hl; exact h5

/-- Types without pointers, maps, functions; structs and arrays lie cell by cell. -/
def plainT (P : Program) : Nat → TypeId → Bool
  | 0, _ => false
  | n + 1, t => match P.underlying t with
    | some .bool => true
    | some (.int _) => true
    | some .string => true
    | some (.slice e) => plainT P n e
    | some (.struct fs) => fs.toList.all (fun f => plainT P n f.type) && P.cellsOf t == (fs.toList.map fun f => P.cellsOf f.type).sum &&
        (List.range fs.toList.length).all fun j => match fs.toList[j]? with | some f => f.offset == ((fs.toList.take j).map fun f => P.cellsOf f.type).sum | none => true
    | some (.array k e) => plainT P n e && P.cellsOf t == k * P.cellsOf e
    | _ => false

theorem RCs_lit {v : Value} (h : v.oneCell' = true) : RCs (fun g _ => g < W.heap.size) W.heap true [.v v] [v] := ⟨⟨rfl, fun _ => h⟩, trivial⟩

theorem mapM_opt {α β : Type} {f : α → Option β} : ∀ {l : List α} {l' : List β}, l.mapM f = some l' → l.length = l'.length ∧ ∀ (i : Nat) (a : α), l[i]? = some a → ∃ b, l'[i]? = some b ∧ f a = some b := mapM_get

/-- WHAT CAN BE READ AS DATA HAS CELLS OF ITS TYPE. -/
theorem trod_typ {sp : Nat → Bool} {held : Bool} : ∀ (k : Nat) (t : TypeId), plainT P k t = true → ∀ (fuel : Nat) (cs : List Value) (x : DataW H × List MemPlace),
    DataW.trod enc P W 0 sp held fuel t cs = some x → (x.1.weights P t).all (· ≤ reachBytes) = true → ∃ vs, RCs (fun g _ => g < W.heap.size) W.heap true vs cs ∧ Typ P k t vs
  | 0, t, hp, _, _, _, _, _ => by cases hp
  | k + 1, t, hp, fuel, cs, x, h, hw => by
    simp only [plainT] at hp
    split at hp
    · next ht =>
      obtain ⟨b, rfl, rfl⟩ := DataW.trod_bool ht h
      simp only [Typ, ht]
      exact ⟨_, RCs_lit rfl, b, rfl⟩
    · next kk ht =>
      obtain ⟨n, rfl, rfl, hwf⟩ := DataW.trod_int ht h
      simp only [Typ, ht]
      exact ⟨_, RCs_lit rfl, n, rfl, hwf⟩
    · next ht =>
      obtain ⟨s, rfl, rfl, hs⟩ := DataW.trod_string ht h
      simp only [Typ, ht]
      refine ⟨_, RCs_lit rfl, s, rfl, ?_⟩
      simp [DataW.weights] at hw
      exact hw
    · next e ht =>
      simp only [Typ, ht]
      rcases DataW.trod_slice ht h with ⟨rfl, rfl⟩ | ⟨a, len, cap, elems, rest, n, rfl, rfl, rfl, hb, hlc, hm, hlen, hel, _, _⟩
      · exact ⟨[.sl [] 0], ⟨⟨⟨none, 0, rfl, Nat.le_refl _, Nat.zero_le _, .inl rfl⟩, fun _ => rfl⟩, trivial⟩, [], rfl, by simp, by simp⟩
      · simp only [DataW.weights, ht, List.all_cons, Bool.and_eq_true, decide_eq_true_eq, List.all_append, List.length_map] at hw
        obtain ⟨hw1, hw2, _⟩ := hw
        have key : ∀ i, i < len → ∃ ecs y, W.cells? 0 (a.add (i * P.cellsOf e)) (P.cellsOf e) = some ecs ∧ DataW.trod enc P W 0 sp held n e ecs = some y ∧ (y.1.weights P e).all (· ≤ reachBytes) = true := by
          intro i hi
          have h1 := hel i hi
          have hie : i < elems.length := by omega
          rw [List.getElem?_eq_getElem hie, Option.bind_eq_some_iff] at h1
          obtain ⟨ecs, h2, h3⟩ := h1
          exact ⟨ecs, _, h2, h3, weightsAll_mem hw2 _ (List.mem_map.2 ⟨_, List.getElem_mem hie, rfl⟩)⟩
        obtain ⟨g, off, spot⟩ := a
        have hbound : len * P.bytesOf e ≤ reachBytes := Nat.le_trans (Nat.mul_le_mul_right _ (by omega)) hw1
        by_cases hz : len * P.cellsOf e = 0
        · -- no cells
          have : ∃ ls : List (List V), ls.length = len ∧ ls.flatten = [] ∧ ∀ l ∈ ls, Typ P k e l := by
            refine ⟨List.replicate len [], by simp, by simp, ?_⟩
            intro l hl
            obtain ⟨hl1, rfl⟩ := List.mem_replicate.1 hl
            have hlen0 : 0 < len := by omega
            have hc0 : P.cellsOf e = 0 := by
              rcases Nat.mul_eq_zero.1 hz with h | h
              · omega
              · exact h
            obtain ⟨ecs, y, h1, h2, h3⟩ := key 0 hlen0
            obtain ⟨vs, h4, h5⟩ := trod_typ k e hp n ecs y h2 h3
            have : ecs = [] := by
              simp [World.cells?, hc0] at h1
              exact h1
            subst this
            have := RCs_length h4
            simp at this
            subst this
            exact h5
          obtain ⟨ls, l1, l2, l3⟩ := this
          exact ⟨[.sl ls.flatten ls.length], ⟨⟨⟨_, cap, by rw [l1], by omega, hm, .inl l2⟩, fun _ => rfl⟩, trivial⟩, ls, rfl, l3, by rw [l1]; exact hbound⟩
        · have hpos : 0 < len ∧ 0 < P.cellsOf e := ⟨Nat.pos_of_ne_zero fun e0 => hz (by rw [e0, Nat.zero_mul]), Nat.pos_of_ne_zero fun e0 => hz (by rw [e0, Nat.mul_zero])⟩
          have hspot : spot = none := by
            obtain ⟨ecs, y, h1, _⟩ := key 0 hpos.1
            rw [Nat.zero_mul] at h1
            simp only [World.cells?, Nat.zero_le, if_true] at h1
            obtain ⟨_, h2⟩ := mapM_opt (f := fun i => W.cell? ((Addr.add ⟨g, off, spot⟩ 0).add i)) h1
            obtain ⟨v, _, h3⟩ := h2 0 0 (by simp [hpos.2])
            cases spot with
            | none => rfl
            | some q =>
              unfold World.cell? at h3
              split at h3
              · simp [Addr.add] at h3
              · cases h3
          subst hspot
          have hadd : ∀ i, Addr.add ⟨g, off, none⟩ (i * P.cellsOf e) = ⟨g, off + i * P.cellsOf e, none⟩ := by
            intro i
            unfold Addr.add
            split
            · next e0 => rw [e0]; rfl
            · rfl
          have hlt : g < W.heap.size := by
            obtain ⟨ecs, y, h1, _⟩ := key 0 hpos.1
            rw [hadd] at h1
            exact cells?_lt h1 hpos.2
          obtain ⟨ls, l1, l2, l3⟩ := rows_RCs (F := fun g _ => g < W.heap.size) (Hp := W.heap) (L := (cellsAt W.heap g).drop off) (size := P.cellsOf e) (Q := Typ P k e) len (by
            intro i hi
            obtain ⟨ecs, y, h1, h2, h3⟩ := key i hi
            obtain ⟨vs, h4, h5⟩ := trod_typ k e hp n ecs y h2 h3
            rw [hadd] at h1
            obtain ⟨h6, _⟩ := cells?_eq h1
            refine ⟨vs, ?_, h5⟩
            rw [List.drop_drop, h6]
            exact h4)
          have hfl : ls.flatten.length ≤ len * P.cellsOf e := by
            have := RCs_length l2
            rw [List.length_take] at this
            omega
          refine ⟨[.sl ls.flatten ls.length], ⟨⟨⟨_, cap, by rw [l1], by omega, hm, .inr ⟨g, off, rfl, fun _ _ => hlt, ?_⟩⟩, fun _ => rfl⟩, trivial⟩, ls, rfl, l3, by rw [l1]; exact hbound⟩
          have e1 := RCs_length l2
          have : ((cellsAt W.heap g).drop off).take ls.flatten.length = ((cellsAt W.heap g).drop off).take (len * P.cellsOf e) := by
            rw [e1, List.length_take]
            rcases Nat.le_total (len * P.cellsOf e) ((cellsAt W.heap g).drop off).length with hh | hh
            · rw [Nat.min_eq_left hh]
            · rw [Nat.min_eq_right hh, List.take_of_length_le (Nat.le_refl _), List.take_of_length_le hh]
          rw [this]
          exact l2
    · next fs ht =>
      simp only [Typ, ht]
      rw [Bool.and_eq_true, Bool.and_eq_true] at hp
      obtain ⟨⟨hp1, hp2⟩, hp3⟩ := hp
      obtain ⟨xs, n, rfl, rfl, hlen, hxs, hf⟩ := DataW.trod_struct ht h
      simp only [DataW.weights, ht] at hw
      obtain ⟨ls, l1, l2⟩ := pieces (F := fun g _ => g < W.heap.size) (Hp := W.heap) (size := fun f => P.cellsOf f.type) (Q := fun f l => Typ P k f.type l) fs.toList 0 cs (by
        intro j f hj
        have hjl : j < fs.toList.length := (List.getElem?_eq_some_iff.1 hj).1
        have := List.all_eq_true.1 hp3 j (List.mem_range.2 hjl)
        simp only [hj, beq_iff_eq] at this
        omega) (by
        intro j f hj
        have hj' : fs[j]? = some f := by rw [← Array.getElem?_toList]; exact hj
        have h1 := hf j f hj'
        have hjx : j < xs.length := by rw [hxs]; have := (List.getElem?_eq_some_iff.1 hj).1; simpa using this
        rw [List.getElem?_eq_getElem hjx] at h1
        refine trod_typ k f.type (List.all_eq_true.1 hp1 f (List.mem_of_getElem? hj)) n _ _ h1 ?_
        exact weightsEach_get hw j f.type _ (by simp [hj]) (by simp [hjx])) (by
        rw [hlen, beq_iff_eq.1 hp2]; omega)
      exact ⟨ls.flatten, by simpa using l1, ls, rfl, l2⟩
    · next m e ht =>
      simp only [Typ, ht]
      rw [Bool.and_eq_true] at hp
      obtain ⟨hp1, hp2⟩ := hp
      obtain ⟨xs, n, rfl, rfl, hlen, hxs, hf⟩ := DataW.trod_array ht h
      simp only [DataW.weights, ht] at hw
      obtain ⟨ls, l1, l2, l3⟩ := rows_RCs (F := fun g _ => g < W.heap.size) (Hp := W.heap) (L := cs) (size := P.cellsOf e) (Q := Typ P k e) m (by
        intro i hi
        have h1 := hf i hi
        have hix : i < xs.length := by omega
        rw [List.getElem?_eq_getElem hix] at h1
        exact trod_typ k e hp1 n _ _ h1 (weightsAll_mem hw _ (List.mem_map.2 ⟨_, List.getElem_mem hix, rfl⟩)))
      refine ⟨ls.flatten, ?_, ls, rfl, l1, l3⟩
      rw [beq_iff_eq.1 hp2] at hlen
      rwa [List.take_of_length_le (by omega)] at l2
    · cases hp
end

/-- A value out of its cells. -/
def typeV (P : Program) (t : TypeId) (vs : List V) : V := match P.underlying t with
  | some (.struct _) => .agg vs
  | some (.array _ _) => .agg vs
  | _ => (vs[0]?).getD .top

section
variable {P : Program} {H : Type} {enc : TypeId × Value → H} {W W' : World}

theorem cells_agg {v c : Value} (h : v.cells.toList = [c]) : v = c ∨ v = .agg #[c] := by
  cases v with
  | agg cs =>
    right
    have : cs.toList = [c] := h
    rw [show cs = #[c] from Array.ext' this]
  | _ => left; simpa [Value.cells] using h

theorem typeV_RC {F : FZ} {Hp : Array Obj} {r : Reach} {b0 k : Nat} {t : TypeId} {v : Value} {vs : List V} (hval : Value.okWide P W r b0 t v) (hr : RCs F Hp true vs v.cells.toList) (ht : Typ P k t vs) : RC F Hp (typeV P t vs) v := by
  cases k with
  | zero => exact ht.elim
  | succ k =>
    have single : ∀ c, vs = [c] → typeV P t vs = c → (∀ x, ¬ Value.okWide P W r b0 t (.agg x)) → RC F Hp (typeV P t vs) v := by
      intro c hc htv hno
      subst hc
      rw [htv]
      obtain ⟨x, hx⟩ : ∃ x, v.cells.toList = [x] := by
        have := RCs_length hr
        match hv : v.cells.toList with
        | [x] => exact ⟨x, rfl⟩
        | [] => rw [hv] at this; simp at this
        | _ :: _ :: _ => rw [hv] at this; simp at this
      rw [hx] at hr
      rcases cells_agg hx with rfl | rfl
      · exact hr.1.1
      · exact absurd hval (hno _)
    unfold Typ at ht
    split at ht
    · next hu =>
      obtain ⟨b, hb⟩ := ht
      exact single _ hb (by simp [typeV, hu, hb]) (by intro x; simp [Value.okWide, hu, Cell.okWide, Cell.ok])
    · next kk hu =>
      obtain ⟨i, hb, _⟩ := ht
      exact single _ hb (by simp [typeV, hu, hb]) (by intro x; simp [Value.okWide, hu, Cell.okWide, Cell.ok])
    · next hu =>
      obtain ⟨b, hb, _⟩ := ht
      exact single _ hb (by simp [typeV, hu, hb]) (by intro x; simp [Value.okWide, hu, Cell.okWide, Cell.ok])
    · next e hu =>
      obtain ⟨b, hb, _⟩ := ht
      exact single _ hb (by simp [typeV, hu, hb]) (by intro x; simp [Value.okWide, hu, Cell.okWide, Cell.ok])
    · next fs hu =>
      simp only [Value.okWide, hu] at hval
      obtain ⟨cs, rfl, _⟩ := hval
      simp only [typeV, hu]
      exact ⟨cs, rfl, hr⟩
    · next n e hu =>
      simp only [Value.okWide, hu] at hval
      obtain ⟨cs, rfl, _⟩ := hval
      simp only [typeV, hu]
      exact ⟨cs, rfl, hr⟩
    · exact ht.elim

/-- The arguments, one by one. -/
theorem args_typ {sp : Nat → Bool} {held : Bool} {r : Reach} {b0 k : Nat} : ∀ (ts : List TypeId) (args : List Value) (ds : List (DataW H)) (ps : List MemPlace), ts.all (plainT P k) = true → DataW.TrodAll enc P W 0 sp held ts args ds ps →
    (∀ (j : Nat) t v, ts[j]? = some t → args[j]? = some v → Value.okWide P W r b0 t v) → (DataW.weightsEach P ts ds).all (· ≤ reachBytes) = true →
    ∃ vss : List (List V), All2 (fun t vs => Typ P k t vs) ts vss ∧ RCs (fun g _ => g < W.heap.size) W.heap false ((ts.zip vss).map fun (t, vs) => typeV P t vs) args
  | [], args, ds, ps, _, h, _, _ => by
    obtain ⟨rfl, rfl, rfl⟩ := trodAll_nil h
    exact ⟨[], trivial, trivial⟩
  | t :: ts, args, ds, ps, hp, h, hval, hw => by
    obtain ⟨v, vs1, d, ds1, p, q, rfl, rfl, rfl, h1, h2⟩ := trodAll_cons h
    simp only [List.all_cons, Bool.and_eq_true] at hp
    simp only [DataW.weightsEach, List.all_append, Bool.and_eq_true] at hw
    obtain ⟨vss, a1, a2⟩ := args_typ ts vs1 ds1 q hp.2 h2 (fun j t v e1 e2 => hval (j + 1) t v (by simpa using e1) (by simpa using e2)) hw.2
    obtain ⟨fuel, hf⟩ := h1
    obtain ⟨vs, c1, c2⟩ := trod_typ k t hp.1 fuel _ _ hf hw.1
    exact ⟨vs :: vss, ⟨c2, a1⟩, ⟨typeV_RC (hval 0 t v rfl rfl) c1 c2, fun e => by cases e⟩, a2⟩

theorem stays_all (hl : laidOutB P = true) (hb : Below W.heap.size W W') {sp : Nat → Bool} : ∀ (ts : List TypeId) (args : List Value) (ds : List (DataW H)) (ps : List MemPlace), ts.all (fun t => P.readableRec t && decide (t < P.types.size)) = true →
    DataW.TrodAll enc P W 0 (fun _ => true) true ts args ds ps → (∀ p ∈ ps, p.block < W.heap.size) → (∀ p ∈ ps, sp p.block = true) → DataW.TrodAll enc P W' 0 sp true ts args ds ps
  | [], args, ds, ps, _, h, _, _ => by
    obtain ⟨rfl, rfl, rfl⟩ := trodAll_nil h
    exact trodAll_mk0
  | t :: ts, args, ds, ps, hr, h, hlt, hsp => by
    obtain ⟨v, vs1, d, ds1, p, q, rfl, rfl, rfl, h1, h2⟩ := trodAll_cons h
    simp only [List.all_cons, Bool.and_eq_true, decide_eq_true_eq] at hr
    refine trodAll_cons_mk ?_ (stays_all hl hb ts vs1 ds1 q hr.2 h2 (fun p hp => hlt p (by simp [hp])) (fun p hp => hsp p (by simp [hp])))
    exact WideElems.Trod_stays hl hr.1.1 hr.1.2 h1 (fun x hx => hb.same (hlt x (by simp [hx]))) (fun x hx => hsp x (by simp [hx]))

theorem trod_len {sp : Nat → Bool} {held : Bool} {b0 : Nat} : ∀ (ts : List TypeId) (args : List Value) (ds : List (DataW H)) (ps : List MemPlace), DataW.TrodAll enc P W b0 sp held ts args ds ps → ds.length = ts.length
  | [], args, ds, ps, h => by
    obtain ⟨rfl, rfl, rfl⟩ := trodAll_nil h
    rfl
  | t :: ts, args, ds, ps, h => by
    obtain ⟨v, vs1, d, ds1, p, q, rfl, rfl, rfl, h1, h2⟩ := trodAll_cons h
    simp [trod_len ts vs1 ds1 q h2]

/-- A LAW: WHATEVER THE INPUT: true, and what was there lies az it lay. -/
theorem lifted_law {C : Checked} {os : Os} {f : FuncId} {fn : Func} {s : ChangeSpec} {tb : TypeId} {k : Nat} {con : Con}
    (own : ownKnob C.prog.godebug = none) (started : os.Started) (noInit : C.prog.inits.idxOf? f = none) (hfn : C.prog.funcs[f]? = some fn)
    (witness : ∃ (w : World) (tape : Tape) (i : Input), w.os = os ∧ (w.forCall tape i).Shaped C.prog ∧ i.vars = [] ∧ Input.okWide C.prog (w.forCall tape i) .any w.heap.size f i ∧
      s.pre6 enc C.prog fn [] false (w.forCall tape i).memory i.args ∧ ({} : Assume).holds C.prog (lone (Frame.enter C.prog f i.args .normal) [] (w.forCall tape i)))
    (hvars : s.vars = []) (hspec : ∀ ds : List (DataW H), ds.length = fn.params.size → s.fn H ds = { results := [.lit (.bool true)], args := ds })
    (hres : fn.resultTypes = #[tb]) (hb : C.prog.underlying tb = some .bool) (hplain : fn.params.toList.all (plainT C.prog k) = true) (hl : laidOutB C.prog = true)
    (hread : fn.params.toList.all (fun t => C.prog.readableRec t && decide (t < C.prog.types.size)) = true)
    (hcon : Has C.prog f con) (hce : con.eff = none) (hcr : ∀ x, con.res x = .v (.bool true))
    (hargs : ∀ vss : List (List V), All2 (fun t vs => Typ C.prog k t vs) fn.params.toList vss → ∃ x, con.enc x = ((fn.params.toList.zip vss).map fun (t, vs) => typeV C.prog t vs) ∧ con.ok x) :
    ReturnsInHanded {} C os f .any (s.pre6 enc C.prog fn [] false) (s.post enc C.prog fn false true false false) := by
  refine returnsInHanded_of_change_sized own started noInit hfn witness ?_
  intro W base args ds gs before hval hW _ hw _
  have hW' := hW
  obtain ⟨p, q, hA, hV, rfl, hfz, hnd⟩ := hW
  rw [hvars] at hV
  obtain ⟨rfl, rfl⟩ : gs = [] ∧ q = [] := by
    cases gs with
    | nil => exact ⟨rfl, hV⟩
    | cons _ _ => exact hV.elim
  have hlen := trod_len _ _ _ _ hA
  have hw1 : (DataW.weightsEach C.prog fn.params.toList ds).all (· ≤ reachBytes) = true := by
    have e : s.plain.varTypes C.prog = [] := by simp [ChangeSpec.plain, DataSpec.varTypes, hvars]
    rw [e, List.append_nil, List.append_nil] at hw
    exact hw
  obtain ⟨vss, a1, a2⟩ := args_typ fn.params.toList args.toList ds p hplain hA (fun j t v e1 e2 => hval j t v (by rw [← Array.getElem?_toList]; exact e1) (by rw [← Array.getElem?_toList]; exact e2)) hw1
  obtain ⟨x, henc, hok⟩ := hargs vss a1
  have hs : SoundV C.prog f con := by have := hcon.1; simpa only [Sound, hce] using this
  have hcall := hs x (fun g _ => g < W.heap.size) W args.toList (fun g j e => e) (by rw [henc]; exact a2) hok
  rw [show args.toList.toArray = args by simp] at hcall
  refine hcall.mono ?_
  rintro e W' ⟨v, F', rfl, hbl, _, _, _, hr⟩
  rw [hcr] at hr
  have hr : v = .bool true := hr
  subst hr
  have hds : ds.length = fn.params.size := by rw [hlen]; simp
  have hspec' := hspec ds hds
  have hlt : ∀ pl ∈ p ++ [], pl.block < W.heap.size := fun pl hp => hW'.lt pl hp
  have hA' : ∀ sp : Nat → Bool, (∀ pl ∈ p ++ [], sp pl.block = true) → DataW.TrodAll enc C.prog W' 0 sp true fn.params.toList args.toList ds p :=
    fun sp hsp => stays_all hl hbl fn.params.toList args.toList ds p hread hA (fun pl hp => hlt pl (by simp [hp])) (fun pl hp => hsp pl (by simp [hp]))
  have hres' : ∀ (b : Nat) (sp : Nat → Bool) (hd : Bool), DataW.TrodAll enc C.prog W' b sp hd fn.resultTypes.toList ((Value.bool true).resultList fn.resultTypes.size) [.lit (.bool true)] [] := by
    intro b sp hd
    rw [hres]
    exact trodAll_cons_mk (shut_bool hb _) trodAll_mk0
  refine ⟨_, rfl, ds, [], p ++ [], [], p, [], hW', ?_, ?_, ?_, ?_, fun ha => by cases ha⟩
  · rw [List.append_nil, hspec']
    exact hres' _ _ _
  · rw [List.append_nil, hspec']
    exact hA' _ fun pl hp => by simpa using hlt pl hp
  · rw [hvars, List.append_nil, hspec']
    rfl
  · exact hbl.frame _
end
end Go.Ev
/- The arguments of the laws: values of their types. -/
set_option linter.unusedVariables false
set_option linter.unusedSimpArgs false
namespace Go.Ev
open Go.Proofs
set_option maxRecDepth 100000

theorem typ_int {n : Nat} {vs : List V} (h : Typ Try.prog (n + 1) 3 vs) : ∃ i, vs = [(V.v (.int .i64 i))] ∧ -9223372036854775808 ≤ i ∧ i ≤ 9223372036854775807 := by
  simp only [Typ, Try.underlying3] at h
  obtain ⟨i, rfl, hw⟩ := h
  refine ⟨i, rfl, ?_⟩
  simp only [Lit.wf, Bool.and_eq_true, decide_eq_true_eq] at hw
  have e1 : IntKind.i64.min = -9223372036854775808 := by decide
  have e2 : IntKind.i64.max = 9223372036854775807 := by decide
  omega

theorem typ_bd {n : Nat} {vs : List V} (h : Typ Try.prog (n + 2) 27 vs) : ∃ b, vs = eBd b := by
  unfold Typ at h
  simp only [Try.underlying27] at h
  obtain ⟨ls, rfl, h⟩ := h
  obtain ⟨a, b, rfl, h1, h2⟩ := all2_2 h
  ·
    obtain ⟨i, rfl, _⟩ := typ_int h1
    obtain ⟨j, rfl, _⟩ := typ_int h2
    exact ⟨⟨i, j⟩, rfl⟩

theorem typ_cat {n : Nat} {vs : List V} (h : Typ Try.prog (n + 3) 48 vs) : ∃ c, vs = eCat c := by
  unfold Typ at h
  simp only [Try.underlying48] at h
  obtain ⟨ls, rfl, h⟩ := h
  obtain ⟨a, b, c, d, rfl, h1, h2, h3, h4⟩ := all2_4 h
  ·
    obtain ⟨i, rfl, _⟩ := typ_int h1
    obtain ⟨j, rfl, _⟩ := typ_int h2
    obtain ⟨k, rfl, _⟩ := typ_int h3
    obtain ⟨s, rfl⟩ := typ_bd h4
    exact ⟨⟨i, j, k, s⟩, rfl⟩

theorem typ_sky {n : Nat} {vs : List V} (h : Typ Try.prog (n + 3) 54 vs) : ∃ c, vs = eSky c := by
  unfold Typ at h
  simp only [Try.underlying54] at h
  obtain ⟨ls, rfl, h⟩ := h
  obtain ⟨a, b, rfl, h1, h2⟩ := all2_2 h
  ·
    obtain ⟨r, rfl⟩ := typ_bd h1
    obtain ⟨s, rfl⟩ := typ_bd h2
    exact ⟨⟨r, s⟩, rfl⟩

theorem typ_all {α : Type} {enc : α → List V} {n : Nat} {e : TypeId} (h : ∀ vs, Typ Try.prog n e vs → ∃ a, vs = enc a) : ∀ (ls : List (List V)), (∀ l ∈ ls, Typ Try.prog n e l) → ∃ l : List α, ls.flatten = recs enc l ∧ ls.length = l.length
  | [], _ => ⟨[], rfl, rfl⟩
  | x :: ls, hl => by
    obtain ⟨a, rfl⟩ := h x (hl x (by simp))
    obtain ⟨l, h1, h2⟩ := typ_all h ls fun y hy => hl y (by simp [hy])
    exact ⟨a :: l, by simp [recs, List.flatten_cons, h1], by simp [h2]⟩

theorem typ_skies {n : Nat} {vs : List V} (h : Typ Try.prog (n + 4) 49 vs) : ∃ l : List Sky, vs = [.sl (recs eSky l) l.length] ∧ l.length ≤ 140737488355328 := by
  unfold Typ at h
  simp only [Try.underlying49] at h
  obtain ⟨ls, rfl, h1, h2⟩ := h
  obtain ⟨l, h3, h4⟩ := typ_all (fun vs hv => typ_sky (n := n) hv) ls h1
  refine ⟨l, by rw [h3, h4], ?_⟩
  have hb : Try.prog.bytesOf 54 = 32 := by kernel_rfl
  rw [hb, h4] at h2
  have : reachBytes = 140737488351232 := rfl
  omega
end Go.Ev
