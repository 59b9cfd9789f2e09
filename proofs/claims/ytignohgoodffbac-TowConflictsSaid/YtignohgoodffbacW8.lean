/- A part of the proof of TowConflicts. -/
import Derived.MapKept
import Derived.Orders
import Derived.OrdersIn
import Derived.Test.YtignohgoodffbacW7
/- Runs in which some calls are known already. -/
set_option linter.unusedVariables false
set_option linter.unusedSimpArgs false
namespace Go.Ev
open Go.RowKit
noncomputable section

def beqI : Int → Int → Bool
  | .ofNat m, .ofNat n => Nat.beq m n
  | .negSucc m, .negSucc n => Nat.beq m n
  | _, _ => false
theorem beqI_eq {a b : Int} (h : beqI a b = true) : a = b := by
  unfold beqI at h
  split at h
  · rw [Nat.eq_of_beq_eq_true h]
  · rw [Nat.eq_of_beq_eq_true h]
  · cases h
def beqB : Bool → Bool → Bool
  | true, true => true
  | false, false => true
  | _, _ => false
theorem beqB_eq {a b : Bool} (h : beqB a b = true) : a = b := by cases a <;> cases b <;> first | rfl | cases h
mutual
def beqV : V → V → Bool
  | .v (.int j a), c => match c with
    | .v (.int k b) => decide (j = k) && beqI a b
    | _ => false
  | .v (.bool a), c => match c with
    | .v (.bool b) => beqB a b
    | _ => false
  | .v (.slice none 0 0), c => isNil c
  | .agg cs, c => match c with
    | .agg ds => beqL cs ds
    | _ => false
  | .tup cs, c => match c with
    | .tup ds => beqL cs ds
    | _ => false
  | .sl cs n, c => match c with
    | .sl ds k => Nat.beq n k && beqL cs ds
    | _ => false
  | _, _ => false
def beqL : List V → List V → Bool
  | [], l => match l with
    | [] => true
    | _ => false
  | c :: cs, l => match l with
    | d :: ds => beqV c d && beqL cs ds
    | [] => false
end
mutual
theorem beqV_eq : ∀ (a b : V), beqV a b = true → a = b
  | .v (.int j a), c, h => by
    unfold beqV at h
    split at h
    · simp only [Bool.and_eq_true, decide_eq_true_eq] at h
      rw [h.1, beqI_eq h.2]
    · cases h
  | .v (.bool a), c, h => by
    unfold beqV at h
    split at h
    · rw [beqB_eq h]
    · cases h
  | .v (.slice none 0 0), c, h => by
    unfold beqV at h
    exact (isNil_eq h).symm
  | .agg cs, c, h => by
    unfold beqV at h
    split at h
    · rw [beqL_eq cs _ h]
    · cases h
  | .tup cs, c, h => by
    unfold beqV at h
    split at h
    · rw [beqL_eq cs _ h]
    · cases h
  | .sl cs n, c, h => by
    unfold beqV at h
    split at h
    · simp only [Bool.and_eq_true] at h
      rw [Nat.eq_of_beq_eq_true h.1, beqL_eq cs _ h.2]
    · cases h
  | .top, c, h => by unfold beqV at h; cases h
  | .fptr cs, c, h => by unfold beqV at h; cases h
  | .fn g caps, c, h => by unfold beqV at h; cases h
  | .box b o, c, h => by unfold beqV at h; cases h
  | .osl b n, c, h => by unfold beqV at h; cases h
  | .yld b, c, h => by unfold beqV at h; cases h
  | .v x, c, h => by
    unfold beqV at h
    split at h
    · next j a e => cases e; split at h
                    · simp only [Bool.and_eq_true, decide_eq_true_eq] at h
                      rw [h.1, beqI_eq h.2]
                    · cases h
    · next a e => cases e; split at h
                  · rw [beqB_eq h]
                  · cases h
    · next e => cases e; exact (isNil_eq h).symm
    · next e => cases e
    · next e => cases e
    · next e => cases e
    · cases h
theorem beqL_eq : ∀ (a b : List V), beqL a b = true → a = b
  | [], l, h => by
    unfold beqL at h
    split at h
    · rfl
    · cases h
  | c :: cs, l, h => by
    unfold beqL at h
    split at h
    · next d ds =>
      simp only [Bool.and_eq_true] at h
      rw [beqV_eq c d h.1, beqL_eq cs ds h.2]
    · cases h
end

abbrev MemoL := List (FuncId × List V × V)
def memo : MemoL → FuncId → List V → Option V
  | [], _, _ => none
  | (g, args, r) :: l, f, avs => match Nat.beq g f && beqL args avs with
    | true => some r
    | false => memo l f avs
def hasM : MemoL → FuncId → Bool
  | [], _ => false
  | (g, _, _) :: l, f => match Nat.beq g f with
    | true => true
    | false => hasM l f

section
variable {P : Program} {G : XG}
def MOK (P : Program) (l : MemoL) : Prop := ∀ g args r, (g, args, r) ∈ l → Has P g { α := Unit, enc := fun _ => args, ok := fun _ => True, res := fun _ => r }
theorem mok_nil : MOK P [] := fun _ _ _ h => by cases h
theorem mok_cons {g : FuncId} {args : List V} {r : V} {l : MemoL} (h : Has P g { α := Unit, enc := fun _ => args, ok := fun _ => True, res := fun _ => r }) (k : MOK P l) : MOK P ((g, args, r) :: l) := by
  intro g' args' r' hm
  cases hm with
  | head => exact h
  | tail _ hm => exact k _ _ _ hm
theorem memo_mem : ∀ {l : MemoL} {g : FuncId} {avs : List V} {r : V}, memo l g avs = some r → (g, avs, r) ∈ l
  | [], _, _, _, h => by cases h
  | (g', args, r') :: l, g, avs, r, h => by
    unfold memo at h
    split at h
    · next e =>
      simp only [Bool.and_eq_true] at e
      cases h
      rw [Nat.eq_of_beq_eq_true e.1, beqL_eq _ _ e.2]
      exact List.mem_cons_self
    · exact List.mem_cons_of_mem _ (memo_mem h)
theorem hasM_mem : ∀ {l : MemoL} {g : FuncId}, hasM l g = true → ∃ args r, (g, args, r) ∈ l
  | [], _, h => by cases h
  | (g', args, r') :: l, g, h => by
    unfold hasM at h
    split at h
    · next e => rw [← Nat.eq_of_beq_eq_true e]; exact ⟨_, _, List.mem_cons_self⟩
    · obtain ⟨a, r, hm⟩ := hasM_mem h; exact ⟨a, r, List.mem_cons_of_mem _ hm⟩
theorem memo_sound {l : MemoL} (hl : MOK P l) (g : FuncId) : SoundV P g (conX (memo l g)) := by
  rintro ⟨avs, r⟩ F w vs hF hv hok
  exact (hl g avs r (memo_mem hok)).1 () F w vs hF hv trivial

def hM (l : MemoL) (H : XH) : XH := fun c avs st top => match c with
  | .fn g caps => match hasM l g with
    | true => match (fzs (avs ++ caps) fun avs' => match memo l g avs' with
        | some r => .retF r
        | none => .fail).x st with
      | some (r, st') => kV r fun r => kS st' fun st' => some (r, st', top)
      | none => H (.fn g caps) avs st top
    | false => H (.fn g caps) avs st top
  | c => H c avs st top
def xM (l : MemoL) (X : FuncId → Option (List V → Option V)) : FuncId → Option (List V → Option V) := fun g => match hasM l g with
  | true => some (memo l g)
  | false => X g

theorem hM_ok {l : MemoL} (hl : MOK P l) {H : XH} (hH : HOK P H) : HOK P (hM l H) := by
  intro c avs st top r st' top' h
  unfold hM at h
  split at h
  · next g caps =>
    split at h
    · next hg =>
      split at h
      · next r1 st1 h1 =>
        simp only [kV_eq, kS_eq] at h
        cases h
        obtain ⟨a0, r0, hm0⟩ := hasM_mem hg
        refine ⟨(hl g a0 r0 hm0).2, ?_⟩
        intro O F m w vs hR hv
        have hgo := RM.x_go (K := fun v s => v = r ∧ s = st') _ _ _ _ h1 ⟨rfl, rfl⟩
        obtain ⟨F1, st1, avs1, q1, e1, q2, q3, _⟩ := mapRM_sound (fz_sound 4) _ _ _ st F _ hR hv.1 hv.2 hgo
        split at q3
        · next r2 h2 =>
          rw [RM.retF_eq] at q3
          obtain ⟨rfl, rfl⟩ := q3
          refine (memo_sound hl g (avs1, r2) F1 w vs q1.f2 q2 h2).mono ?_
          rintro e w' ⟨v, F', rfl, hbl, p1, p2, p3, p4⟩
          exact ⟨v, F', m, rfl, q1.later hbl p1 p2 p3, RV.of_RC p4⟩
        · cases q3
      · exact hH _ _ _ _ _ _ _ h
    · exact hH _ _ _ _ _ _ _ h
  · exact hH _ _ _ _ _ _ _ h

theorem ctx_m {l : MemoL} (hl : MOK P l) {X : FuncId → Option (List V → Option V)} (hX : CtxOK P (ctxX X)) : CtxOK P (ctxX (xM l X)) := by
  intro g c hc
  unfold ctxX xM at hc
  cases hg : hasM l g with
  | true =>
    simp [hg] at hc
    subst hc
    obtain ⟨a0, r0, hm0⟩ := hasM_mem hg
    exact ⟨memo_sound hl g, (hl g a0 r0 hm0).2⟩
  | false =>
    simp [hg] at hc
    exact hX g c (by unfold ctxX; exact hc)

/-- A call, some calls within it known. -/
def xtop (P : Program) (G : XG) (l : MemoL) (fuel n : Nat) : XH := fun c avs st top => match c with
  | .fn g caps => match G g with
    | some fn => match fn.body with
      | some code => xfn P (hM l (xcall P G fuel n)) (xM l (xpures P G (xcall P G fuel n))) fuel fn code (avs ++ caps) st top
      | none => none
    | none => none
  | _ => none
theorem xtop_ok (hG : GOK P G) (hmix : P.follows .mixedOrders = true) {l : MemoL} (hl : MOK P l) (fuel n : Nat) : HOK P (xtop P G l fuel n) := by
  intro c avs st top r st' top' h
  simp only [xtop] at h
  split at h
  · next g caps =>
    split at h
    · next fn hg =>
      split at h
      · next code hb =>
        have ih := xcall_ok hG hmix fuel n
        exact ⟨(hG g fn hg).2, xfn_ok (hM_ok hl ih) (ctx_m hl (ctx_x hG ih)) hmix (hG g fn hg).1 hb h⟩
      · cases h
    · cases h
  · cases h
theorem has_m (hG : GOK P G) (hmix : P.follows .mixedOrders = true) {l : MemoL} (hl : MOK P l) {fuel n : Nat} {f : FuncId} {args : List V} {r : V} (h : xpure P (xtop P G l fuel n) f args = some r) (hf : (G f).isSome = true) :
    Has P f { α := Unit, enc := fun _ => args, ok := fun _ => True, res := fun _ => r } := by
  obtain ⟨fn, hfn⟩ := Option.isSome_iff_exists.1 hf
  refine ⟨?_, (hG f fn hfn).2⟩
  show SoundV P f _
  intro x F w vs hF hv _
  exact soundV_x (xtop_ok hG hmix hl fuel n) f (args, r) F w vs hF hv h
end
end
end Go.Ev
/- A machine that mirrors the model's, its blocks under names of its own: values, boxes, what it means that a run follows it. -/
set_option linter.unusedVariables false
set_option linter.unusedSimpArgs false
namespace Go.Ev.Mi
open Go.RowKit

inductive W where
  | top
  | v (x : Value)
  | agg (cs : List W)
  | tup (cs : List W)
  | ptr (b off : Nat)
  | sl (b off n : Nat) (cap : Option Nat)
  | mp (b : Nat)
  | fn (g : FuncId) (caps : List W)
  | yld (b : Nat)
  | ifc (t : TypeId) (x : W)
  deriving Inhabited

/-- A name's block; how many elements it has room for. -/
abbrev MM := Nat → Option (Nat × Nat)

mutual
def RW (m : MM) : W → Value → Prop
  | .top, _ => True
  | .v y, x => x = y
  | .agg cs, x => ∃ arr, x = .agg arr ∧ RWs m true cs arr.toList
  | .tup cs, x => ∃ arr, x = .tuple arr ∧ RWs m false cs arr.toList
  | .ptr b off, x => ∃ g C, m b = some (g, C) ∧ x = .pointer (some ⟨g, off, none⟩)
  | .sl b off n cap, x => ∃ g C o c, m b = some (g, C) ∧ x = .slice (some ⟨g, o, none⟩) n c ∧ (o = off ∨ c = 0) ∧ n ≤ c ∧ c ≤ maxLen ∧ (∀ k, cap = some k → c = k) ∧ (cap = none → off = 0 → c = C)
  | .mp b, x => ∃ g C, m b = some (g, C) ∧ x = .map (some g)
  | .fn f caps, x => ∃ arr, x = .func (.func f) #[] arr ∧ RWs m false caps arr.toList
  | .yld b, x => ∃ g C, m b = some (g, C) ∧ x = .func (.yield g) #[] #[]
  | .ifc t c, x => ∃ y, x = .iface t y ∧ RW m c y
def RWs (m : MM) (one : Bool) : List W → List Value → Prop
  | [], [] => True
  | c :: cs, x :: xs => (RW m c x ∧ (one = true → x.oneCell' = true)) ∧ RWs m one cs xs
  | _, _ => False
end

theorem RWs_iff {m : MM} {one : Bool} : ∀ {cs : List W} {xs : List Value},
    RWs m one cs xs ↔ (cs.length = xs.length ∧ ∀ (i : Nat) (c : W) (x : Value), cs[i]? = some c → xs[i]? = some x → RW m c x ∧ (one = true → x.oneCell' = true))
  | [], [] => by simp [RWs]
  | [], _ :: _ => by simp [RWs]
  | _ :: _, [] => by simp [RWs]
  | c :: cs, x :: xs => by
    simp only [RWs, List.length_cons, RWs_iff (cs := cs) (xs := xs)]
    constructor
    · rintro ⟨h0, h1, h2⟩
      refine ⟨by omega, fun i c' x' hc hx => ?_⟩
      cases i with
      | zero => simp at hc hx; subst hc hx; exact h0
      | succ i => simp at hc hx; exact h2 i c' x' hc hx
    · rintro ⟨h1, h2⟩
      exact ⟨h2 0 c x rfl rfl, by omega, fun i c' x' hc hx => h2 (i + 1) c' x' (by simpa using hc) (by simpa using hx)⟩

theorem RWs_length {m : MM} {one : Bool} {cs : List W} {xs : List Value} (h : RWs m one cs xs) : cs.length = xs.length := (RWs_iff.1 h).1

mutual
theorem RW.mono {m m' : MM} (hm : ∀ b y, m b = some y → m' b = some y) : ∀ (c : W) (x : Value), RW m c x → RW m' c x
  | .top, _, _ => by simp [RW]
  | .v y, x, h => by simpa [RW] using h
  | .agg cs, x, h => by
    simp only [RW] at h ⊢
    obtain ⟨arr, rfl, h⟩ := h
    exact ⟨arr, rfl, RWs.mono hm cs _ h⟩
  | .tup cs, x, h => by
    simp only [RW] at h ⊢
    obtain ⟨arr, rfl, h⟩ := h
    exact ⟨arr, rfl, RWs.mono hm cs _ h⟩
  | .ptr b off, x, h => by
    simp only [RW] at h ⊢
    obtain ⟨g, C, h1, h2⟩ := h
    exact ⟨g, C, hm _ _ h1, h2⟩
  | .sl b off n cap, x, h => by
    simp only [RW] at h ⊢
    obtain ⟨g, C, o, c, h1, h2⟩ := h
    exact ⟨g, C, o, c, hm _ _ h1, h2⟩
  | .mp b, x, h => by
    simp only [RW] at h ⊢
    obtain ⟨g, C, h1, h2⟩ := h
    exact ⟨g, C, hm _ _ h1, h2⟩
  | .fn f caps, x, h => by
    simp only [RW] at h ⊢
    obtain ⟨arr, rfl, h⟩ := h
    exact ⟨arr, rfl, RWs.mono hm caps _ h⟩
  | .yld b, x, h => by
    simp only [RW] at h ⊢
    obtain ⟨g, C, h1, h2⟩ := h
    exact ⟨g, C, hm _ _ h1, h2⟩
  | .ifc t c, x, h => by
    simp only [RW] at h ⊢
    obtain ⟨y, rfl, h⟩ := h
    exact ⟨y, rfl, RW.mono hm c y h⟩
theorem RWs.mono {m m' : MM} {one : Bool} (hm : ∀ b y, m b = some y → m' b = some y) : ∀ (cs : List W) (xs : List Value), RWs m one cs xs → RWs m' one cs xs
  | [], [], _ => by simp [RWs]
  | c :: cs, x :: xs, h => by
    simp only [RWs] at h ⊢
    exact ⟨⟨RW.mono hm c x h.1.1, h.1.2⟩, RWs.mono hm cs xs h.2⟩
  | [], _ :: _, h => by simp [RWs] at h
  | _ :: _, [], h => by simp [RWs] at h
end

theorem RWs_drop {m : MM} {one : Bool} {cs : List W} {xs : List Value} (h : RWs m one cs xs) (n : Nat) : RWs m one (cs.drop n) (xs.drop n) := by
  rw [RWs_iff] at h ⊢
  refine ⟨by simp [h.1], fun i c x hc hx => ?_⟩
  rw [List.getElem?_drop] at hc hx
  exact h.2 _ c x hc hx
theorem RWs_take {m : MM} {one : Bool} {cs : List W} {xs : List Value} (h : RWs m one cs xs) (n : Nat) : RWs m one (cs.take n) (xs.take n) := by
  rw [RWs_iff] at h ⊢
  refine ⟨by simp [h.1], fun i c x hc hx => ?_⟩
  rw [List.getElem?_take] at hc hx
  split at hc
  · next hi => rw [if_pos hi] at hx; exact h.2 _ c x hc hx
  · cases hc
theorem RWs_append {m : MM} {one : Bool} {cs ds : List W} {xs ys : List Value} (h : RWs m one cs xs) (k : RWs m one ds ys) : RWs m one (cs ++ ds) (xs ++ ys) := by
  rw [RWs_iff] at h k ⊢
  refine ⟨by simp [h.1, k.1], fun i c x hc hx => ?_⟩
  by_cases hi : i < cs.length
  · rw [List.getElem?_append_left hi] at hc
    rw [List.getElem?_append_left (by omega)] at hx
    exact h.2 i c x hc hx
  · rw [List.getElem?_append_right (by omega)] at hc
    rw [List.getElem?_append_right (by omega), ← h.1] at hx
    exact k.2 _ c x hc hx
theorem RWs_weak {m : MM} {one : Bool} {cs : List W} {xs : List Value} (h : RWs m one cs xs) : RWs m false cs xs := by
  rw [RWs_iff] at h ⊢
  exact ⟨h.1, fun i c x hc hx => ⟨(h.2 i c x hc hx).1, fun e => by cases e⟩⟩
theorem RWs_ones {m : MM} {cs : List W} {xs : List Value} (h : RWs m true cs xs) : ∀ u ∈ xs, u.oneCell' = true := by
  intro u hu
  obtain ⟨i, hi⟩ := List.getElem?_of_mem hu
  rw [RWs_iff] at h
  have hi' : i < cs.length := by rw [h.1]; exact (List.getElem?_eq_some_iff.1 hi).1
  exact (h.2 i _ u (List.getElem?_eq_getElem hi') hi).2 rfl
theorem RWs_splice {m : MM} {one : Bool} {cs new : List W} {xs ys : List Value} {off n : Nat} (h : RWs m one cs xs) (k : RWs m one new ys) :
    RWs m one (cs.take off ++ new ++ cs.drop (off + n)) (xs.take off ++ ys ++ xs.drop (off + n)) :=
  RWs_append (RWs_append (RWs_take h off) k) (RWs_drop h (off + n))
theorem RWs_vals {m : MM} {xs : List Value} (h : ∀ x ∈ xs, x.oneCell' = true) : RWs m true (xs.map W.v) xs := by
  rw [RWs_iff]
  refine ⟨by simp, fun i c x hc hx => ?_⟩
  rw [List.getElem?_map, hx] at hc
  cases hc
  exact ⟨rfl, fun _ => h _ (List.mem_of_getElem? hx)⟩

/-- The record of a range over a function. -/
structure LoopM where
  tm : List (Nat × W)
  sz : Nat
  ps : Array Tmp
  assign : Code
  body : Code
  state : LoopState
  pending : Option Code

inductive B where
  | cells (cs : List W) (e : TypeId) (size : Nat)
  | map (es : List (Value × W × Nat)) (clock : Nat)
  | loop (r : LoopM)
  | mark (open_ : Bool)
  | dead
  deriving Inhabited

abbrev TW := List (Nat × W)
abbrev SB := List (Nat × B)

def RE (m : MM) (e : Value × W × Nat) (x : MapEntry) : Prop := x.key = e.1 ∧ RW m e.2.1 x.val ∧ x.born = e.2.2

def RB (O : Nat → Prop) (m : MM) (H : Array Obj) (b : Nat) : B → Prop
  | .cells cs e size => ∃ g C arr, m b = some (g, C) ∧ O g ∧ H[g]? = some (.cells arr e (0, 0)) ∧ RWs m true cs (arr.toList.take cs.length) ∧ (size ≠ 0 → arr.size = C * size)
  | .map es clock => ∃ g C arr, m b = some (g, C) ∧ O g ∧ H[g]? = some (.map arr clock) ∧ es.length = arr.size ∧ ∀ (i : Nat) (e : Value × W × Nat) (x : MapEntry), es[i]? = some e → arr[i]? = some x → RE m e x
  | .loop r => ∃ g C l, m b = some (g, C) ∧ O g ∧ H[g]? = some (.loop l) ∧ l.state = r.state ∧ l.pending = r.pending ∧ l.params = r.ps ∧ l.assign = r.assign ∧ l.body = r.body ∧
      l.tmps.size = r.sz ∧ ∀ i, RW m ((look r.tm i).getD .top) (l.tmps.getD i undef)
  | .mark p => ∃ g C, m b = some (g, C) ∧ O g ∧ H[g]? = some (.deferred (if p then some [] else none))
  | .dead => True

theorem RB.mono {O O' : Nat → Prop} {m m' : MM} {H H' : Array Obj} {b : Nat} {x : B} (h : RB O m H b x) (hm : ∀ b y, m b = some y → m' b = some y) (hb : ∀ g C, m b = some (g, C) → O g → H'[g]? = H[g]? ∧ O' g) : RB O' m' H' b x := by
  cases x with
  | cells cs e size =>
    obtain ⟨g, C, arr, h1, h2, h3, h4⟩ := h
    exact ⟨g, C, arr, hm _ _ h1, (hb g C h1 h2).2, by rw [(hb g C h1 h2).1]; exact h3, RWs.mono hm _ _ h4.1, h4.2⟩
  | map es clock =>
    obtain ⟨g, C, arr, h1, h2, h3, h4, h5⟩ := h
    exact ⟨g, C, arr, hm _ _ h1, (hb g C h1 h2).2, by rw [(hb g C h1 h2).1]; exact h3, h4, fun i e x he hx => ⟨(h5 i e x he hx).1, RW.mono hm _ _ (h5 i e x he hx).2.1, (h5 i e x he hx).2.2⟩⟩
  | loop r =>
    obtain ⟨g, C, l, h1, h2, h3, h4, h5, h6, h7, h8, h9, h10⟩ := h
    exact ⟨g, C, l, hm _ _ h1, (hb g C h1 h2).2, by rw [(hb g C h1 h2).1]; exact h3, h4, h5, h6, h7, h8, h9, fun i => RW.mono hm _ _ (h10 i)⟩
  | mark p =>
    obtain ⟨g, C, h1, h2, h3⟩ := h
    exact ⟨g, C, hm _ _ h1, (hb g C h1 h2).2, by rw [(hb g C h1 h2).1]; exact h3⟩
  | dead => trivial

theorem RB.at {O : Nat → Prop} {m : MM} {H : Array Obj} {b : Nat} {x : B} (hx : x ≠ .dead) (h : RB O m H b x) : ∃ g C, m b = some (g, C) ∧ O g := by
  cases x with
  | cells cs e size => obtain ⟨g, C, arr, h1, h2, _⟩ := h; exact ⟨g, C, h1, h2⟩
  | map es clock => obtain ⟨g, C, arr, h1, h2, _⟩ := h; exact ⟨g, C, h1, h2⟩
  | loop r => obtain ⟨g, C, l, h1, h2, _⟩ := h; exact ⟨g, C, h1, h2⟩
  | mark p => obtain ⟨g, C, h1, h2, _⟩ := h; exact ⟨g, C, h1, h2⟩
  | dead => exact absurd rfl hx

def alive (st : SB) (b : Nat) : Prop := ∃ x, look st b = some x ∧ x ≠ .dead

/-- N0: names from here on may be given anew. -/
structure RelM (O : Nat → Prop) (w0 : World) (M0 : MM) (N0 : Nat) (U : Nat → Prop) (m : MM) (sz : Nat) (tm : TW) (st : SB) (a : Act) (w : World) : Prop where
  htm : ∀ i, RW m ((look tm i).getD .top) (a.tmps.getD i undef)
  hsz : a.tmps.size = sz
  hst : ∀ b x, look st b = some x → RB O m w.heap b x
  inj : ∀ b b' g c c', alive st b → alive st b' → m b = some (g, c) → m b' = some (g, c') → b = b'
  fresh : ∀ b, U b → look st b = none ∧ m b = none
  un : ∀ b, U b → N0 ≤ b
  mlt : ∀ b g c, m b = some (g, c) → g < w.heap.size
  pin : ∀ b g, M0 b = some g → m b = some g
  low : ∀ b g, m b = some g → M0 b = some g ∨ N0 ≤ b
  below : Own O w0 w
  hb : ∀ g, w0.heap.size ≤ g → O g

section
variable {O : Nat → Prop} {w0 : World} {M0 : MM} {N0 : Nat} {U : Nat → Prop} {m : MM} {sz : Nat} {tm : TW} {st : SB} {a : Act} {w : World}

def putW (tm : TW) (d : Option Nat) (v : W) : TW := match d with
  | some i => (i, v) :: tm
  | none => tm

theorem RelM.put (h : RelM O w0 M0 N0 U m sz tm st a w) {d : Option Nat} (hd : okDst sz d = true) {c : W} {x : Value} (hx : RW m c x) :
    RelM O w0 M0 N0 U m sz (putW tm d c) st (a.put d x) w := by
  cases d with
  | none => exact h
  | some i =>
    have hi : i < a.tmps.size := by have := h.hsz; simp [okDst] at hd; omega
    refine { h with htm := fun j => ?_, hsz := by simp [Act.put, h.hsz] }
    simp only [putW, look_cons, Act.put]
    by_cases hij : i = j
    · subst hij
      simp only [if_true, Option.getD_some]
      simpa [Array.getD, hi] using hx
    · simp only [if_neg hij]
      have := h.htm j
      simpa [Array.getD_eq_getD_getElem?, Array.getElem?_setIfInBounds, hij] using this

theorem RelM.weakU (h : RelM O w0 M0 N0 U m sz tm st a w) {U' : Nat → Prop} (hU : ∀ b, U' b → U b) : RelM O w0 M0 N0 U' m sz tm st a w :=
  { h with fresh := fun b hb => h.fresh b (hU b hb), un := fun b hb => h.un b (hU b hb) }

theorem RelM.drew (h : RelM O w0 M0 N0 U m sz tm st a w) : RelM O w0 M0 N0 U m sz tm st a w.drew :=
  { h with below := h.below.drew }

theorem RelM.act (h : RelM O w0 M0 N0 U m sz tm st a w) {sz' : Nat} {tm' : TW} {a' : Act} (htm : ∀ i, RW m ((look tm' i).getD .top) (a'.tmps.getD i undef)) (hsz : a'.tmps.size = sz') :
    RelM O w0 M0 N0 U m sz' tm' st a' w := { h with htm := htm, hsz := hsz }

theorem RelM.congr (h : RelM O w0 M0 N0 U m sz tm st a w) {st' : SB} (hl : ∀ b, look st' b = look st b) : RelM O w0 M0 N0 U m sz tm st' a w := by
  have hal : ∀ b, alive st' b → alive st b := by rintro b ⟨x, hx, h0⟩; exact ⟨x, by rw [← hl]; exact hx, h0⟩
  exact { h with hst := fun b x hx => h.hst b x (by rw [← hl]; exact hx), inj := fun b b' g c c' a1 a2 => h.inj b b' g c c' (hal b a1) (hal b' a2), fresh := fun b hb => ⟨by rw [hl]; exact (h.fresh b hb).1, (h.fresh b hb).2⟩ }

theorem RelM.congrT (h : RelM O w0 M0 N0 U m sz tm st a w) {tm' : TW} (hl : ∀ i, look tm' i = look tm i) : RelM O w0 M0 N0 U m sz tm' st a w :=
  h.act (fun i => by rw [hl]; exact h.htm i) h.hsz

theorem RelM.own_new (h : RelM O w0 M0 N0 U m sz tm st a w) : O w.heap.size := h.hb _ h.below.size

/-- Some boxes are no longer looked at. -/
theorem RelM.fewer (h : RelM O w0 M0 N0 U m sz tm st a w) {st' : SB} (hl : ∀ b x, look st' b = some x → look st b = some x) : RelM O w0 M0 N0 U m sz tm st' a w := by
  have hal : ∀ b, alive st' b → alive st b := by rintro b ⟨x, hx, h0⟩; exact ⟨x, hl b x hx, h0⟩
  refine { h with hst := fun b x hx => h.hst b x (hl b x hx), inj := fun b b' g c c' a1 a2 => h.inj b b' g c c' (hal b a1) (hal b' a2), fresh := fun b hb => ⟨?_, (h.fresh b hb).2⟩ }
  cases e : look st' b with
  | none => rfl
  | some x => have := hl b x e; rw [(h.fresh b hb).1] at this; cases this

/-- A new block. -/
theorem RelM.new (h : RelM O w0 M0 N0 U m sz tm st a w) {id : Nat} (cap : Nat) (hU : U id) {o : Obj} {x : B} (hx : x ≠ .dead)
    (hbx : ∀ m', (∀ b y, m b = some y → m' b = some y) → m' id = some (w.heap.size, cap) → (w.alloc o).heap[w.heap.size]? = some o → RB O m' (w.alloc o).heap id x) :
    RelM O w0 M0 N0 (fun b => U b ∧ b ≠ id) (fun b => if b = id then some (w.heap.size, cap) else m b) sz tm ((id, x) :: st) a (w.alloc o) ∧
    (∀ b y, m b = some y → (fun b => if b = id then some (w.heap.size, cap) else m b) b = some y) := by
  have hm : ∀ b y, m b = some y → (fun b => if b = id then some (w.heap.size, cap) else m b) b = some y := by
    intro b y hb
    by_cases e : b = id
    · subst e; rw [(h.fresh b hU).2] at hb; cases hb
    · simp [e, hb]
  have hold : ∀ k, k < w.heap.size → (w.alloc o).heap[k]? = w.heap[k]? := fun k hk => Below.heap_alloc w _ _ hk
  refine ⟨?_, hm⟩
  refine { htm := fun i => RW.mono hm _ _ (h.htm i), hsz := h.hsz, hst := ?_, inj := ?_, fresh := ?_, un := fun b hb => h.un b hb.1, pin := fun b y e => hm b y (h.pin b y e), low := ?_, mlt := ?_, below := h.below.alloc h.hb _, hb := h.hb }
  · intro b y hy
    rw [look_cons] at hy
    split at hy
    · next e =>
      subst e; cases hy
      exact hbx _ hm (by simp) (by have := heap_alloc_new w o; exact this)
    · exact (h.hst b y hy).mono hm (fun g C hg ho => ⟨hold g (h.mlt _ _ _ hg), ho⟩)
  · intro b b' g c c' ha ha' hg hg'
    by_cases e : b = id
    · by_cases e' : b' = id
      · rw [e, e']
      · simp only [e, if_true, Option.some.injEq, Prod.mk.injEq] at hg
        simp only [e', if_false] at hg'
        exact absurd (h.mlt _ _ _ hg') (by omega)
    · by_cases e' : b' = id
      · simp only [e', if_true, Option.some.injEq, Prod.mk.injEq] at hg'
        simp only [e, if_false] at hg
        exact absurd (h.mlt _ _ _ hg) (by omega)
      · simp only [e, if_false] at hg
        simp only [e', if_false] at hg'
        have al : ∀ b, b ≠ id → alive ((id, x) :: st) b → alive st b := by
          rintro b hb ⟨y, hy, hy0⟩
          rw [look_cons, if_neg (fun e => hb e.symm)] at hy
          exact ⟨y, hy, hy0⟩
        exact h.inj b b' g c c' (al b e ha) (al b' e' ha') hg hg'
  · rintro b ⟨hb, hne⟩
    refine ⟨?_, by simp [hne, (h.fresh b hb).2]⟩
    rw [look_cons, if_neg (fun e => hne e.symm)]
    exact (h.fresh b hb).1
  · intro b g c hb
    by_cases e : b = id
    · simp only [e, if_true, Option.some.injEq, Prod.mk.injEq] at hb
      simp; omega
    · simp only [e, if_false] at hb
      have := h.mlt _ _ _ hb
      simp; omega
  · intro b g hb
    by_cases e : b = id
    · subst e; exact .inr (h.un _ hU)
    · simp only [e, if_false] at hb; exact h.low b g hb

/-- A block is written; what the box says of it, too. -/
theorem RelM.write (h : RelM O w0 M0 N0 U m sz tm st a w) {b g C : Nat} {x0 x1 : B} (hl : look st b = some x0) (h0 : x0 ≠ .dead) (hm : m b = some (g, C)) (hg : O g) {w' : World}
    (hos : w'.os = w.os) (htp : w'.tape = w.tape) (hout : w'.output = w.output) (hsize : w'.heap.size = w.heap.size) (hoth : ∀ k, k ≠ g → w'.heap[k]? = w.heap[k]?) (hx : RB O m w'.heap b x1) :
    RelM O w0 M0 N0 U m sz tm ((b, x1) :: st) a w' := by
  have hal : ∀ b', alive ((b, x1) :: st) b' → alive st b' := by
    rintro b' ⟨y, hy, hy0⟩
    rw [look_cons] at hy
    split at hy
    · next e => subst e; exact ⟨x0, hl, h0⟩
    · exact ⟨y, hy, hy0⟩
  refine { htm := h.htm, hsz := h.hsz, hst := ?_, inj := fun b1 b2 g' c c' a1 a2 => h.inj b1 b2 g' c c' (hal _ a1) (hal _ a2), fresh := ?_, un := h.un, pin := h.pin, low := h.low, mlt := ?_, below := ?_, hb := h.hb }
  · intro b' y hy
    rw [look_cons] at hy
    split at hy
    · next e => subst e; cases hy; exact hx
    · next hne =>
      by_cases hd : y = .dead
      · subst hd; trivial
      refine (h.hst b' y hy).mono (fun _ _ e => e) (fun g' c' hm' ho => ⟨hoth g' ?_, ho⟩)
      rintro rfl
      exact hne (h.inj b b' _ _ _ ⟨x0, hl, h0⟩ ⟨y, hy, hd⟩ hm hm')
  · intro b' hb'
    obtain ⟨e1, e2⟩ := h.fresh b' hb'
    refine ⟨?_, e2⟩
    rw [look_cons, if_neg (fun e => by subst e; rw [hl] at e1; cases e1)]
    exact e1
  · intro b g c hb; rw [hsize]; exact h.mlt b g c hb
  · exact h.below.trans ⟨hos, htp, hout, by omega, fun k hno => hoth k (fun e => hno (e ▸ hg))⟩

theorem RelM.setRow (h : RelM O w0 M0 N0 U m sz tm st a w) {b g C : Nat} {x0 x1 : B} (hl : look st b = some x0) (h0 : x0 ≠ .dead) (hm : m b = some (g, C)) (hg : O g)
    {arr arr' : Array Value} {ty : TypeId} (hh : w.heap[g]? = some (.cells arr ty (0, 0)))
    (hx : (w.setRow g arr').heap[g]? = some (.cells arr' ty (0, 0)) → RB O m (w.setRow g arr').heap b x1) :
    RelM O w0 M0 N0 U m sz tm ((b, x1) :: st) a (w.setRow g arr') :=
  h.write hl h0 hm hg rfl rfl rfl (by simp [World.setRow]) (fun k hk => setRow_other w g k arr' hk) (hx (setRow_heap w g arr arr' ty _ hh))

theorem RelM.putObj (h : RelM O w0 M0 N0 U m sz tm st a w) {b g C : Nat} {x0 x1 : B} (hl : look st b = some x0) (h0 : x0 ≠ .dead) (hm : m b = some (g, C)) (hg : O g) {o : Obj}
    (hx : (w.putObj g o).heap[g]? = some o → RB O m (w.putObj g o).heap b x1) : RelM O w0 M0 N0 U m sz tm ((b, x1) :: st) a (w.putObj g o) :=
  h.write hl h0 hm hg rfl rfl rfl (by simp) (fun k hk => World.putObj_heap_other hk) (hx (World.putObj_heap_same (h.mlt _ _ _ hm)))

/-- A box takes the place of another one, in the same block. -/
theorem RelM.rename (h : RelM O w0 M0 N0 U m sz tm st a w) {b id g C : Nat} (hU : U id) {x0 x1 : B} (hl : look st b = some x0) (h0 : x0 ≠ .dead) (hm : m b = some (g, C))
    (hx : ∀ m', (∀ b y, m b = some y → m' b = some y) → m' id = some (g, C) → RB O m' w.heap id x1) :
    RelM O w0 M0 N0 (fun b => U b ∧ b ≠ id) (fun k => if k = id then some (g, C) else m k) sz tm ((id, x1) :: (b, .dead) :: st) a w ∧ (∀ b y, m b = some y → (fun k => if k = id then some (g, C) else m k) b = some y) := by
  have hbi : b ≠ id := fun e => by subst e; rw [(h.fresh b hU).1] at hl; cases hl
  have hmm : ∀ b y, m b = some y → (fun k => if k = id then some (g, C) else m k) b = some y := by
    intro b y hb
    by_cases e : b = id
    · subst e; rw [(h.fresh b hU).2] at hb; cases hb
    · simp [e, hb]
  have hal : ∀ b', b' ≠ id → alive ((id, x1) :: (b, .dead) :: st) b' → alive st b' ∧ b' ≠ b := by
    rintro b' hne ⟨y, hy, hy0⟩
    rw [look_cons, if_neg (fun e => hne e.symm), look_cons] at hy
    split at hy
    · cases hy; exact absurd rfl hy0
    · next e => exact ⟨⟨y, hy, hy0⟩, fun e' => e e'.symm⟩
  refine ⟨?_, hmm⟩
  refine { htm := fun i => RW.mono hmm _ _ (h.htm i), hsz := h.hsz, hst := ?_, inj := ?_, fresh := ?_, un := fun b hb => h.un b hb.1, pin := fun b y e => hmm b y (h.pin b y e), low := ?_, mlt := ?_, below := h.below, hb := h.hb }
  · intro b' y hy
    rw [look_cons] at hy
    split at hy
    · next e => subst e; cases hy; exact hx _ hmm (by simp)
    · rw [look_cons] at hy
      split at hy
      · cases hy; trivial
      · exact (h.hst b' y hy).mono hmm (fun g' c' hg' ho => ⟨rfl, ho⟩)
  · intro b1 b2 g' c1 c2 a1 a2 h1 h2
    by_cases e1 : b1 = id
    · by_cases e2 : b2 = id
      · rw [e1, e2]
      · simp only [e1, if_true, Option.some.injEq, Prod.mk.injEq] at h1
        simp only [e2, if_false] at h2
        obtain ⟨al, hne⟩ := hal b2 e2 a2
        have := h.inj b2 b g' c2 C al ⟨x0, hl, h0⟩ h2 (by rw [hm, h1.1])
        exact absurd this hne
    · by_cases e2 : b2 = id
      · simp only [e2, if_true, Option.some.injEq, Prod.mk.injEq] at h2
        simp only [e1, if_false] at h1
        obtain ⟨al, hne⟩ := hal b1 e1 a1
        have := h.inj b1 b g' c1 C al ⟨x0, hl, h0⟩ h1 (by rw [hm, h2.1])
        exact absurd this hne
      · simp only [e1, if_false] at h1
        simp only [e2, if_false] at h2
        exact h.inj b1 b2 g' c1 c2 (hal b1 e1 a1).1 (hal b2 e2 a2).1 h1 h2
  · rintro b' ⟨hb', hne⟩
    refine ⟨?_, by simp [hne, (h.fresh b' hb').2]⟩
    have h3 := (h.fresh b' hb').1
    rw [look_cons, if_neg (fun e => hne e.symm), look_cons, if_neg (fun e => by subst e; rw [hl] at h3; cases h3)]
    exact h3
  · intro b' g' c' hb'
    by_cases e : b' = id
    · simp only [e, if_true, Option.some.injEq, Prod.mk.injEq] at hb'
      rw [← hb'.1]
      exact h.mlt b g C hm
    · simp only [e, if_false] at hb'
      exact h.mlt _ _ _ hb'
  · intro b' g' hb'
    by_cases e : b' = id
    · subst e; exact .inr (h.un _ hU)
    · simp only [e, if_false] at hb'; exact h.low _ _ hb'

/-- A box is given up. -/
theorem RelM.kill (h : RelM O w0 M0 N0 U m sz tm st a w) {b : Nat} {x0 : B} (hl : look st b = some x0) : RelM O w0 M0 N0 U m sz tm ((b, .dead) :: st) a w := by
  have hal : ∀ b', alive ((b, .dead) :: st) b' → alive st b' := by
    rintro b' ⟨y, hy, hy0⟩
    rw [look_cons] at hy
    split at hy
    · cases hy; exact absurd rfl hy0
    · exact ⟨y, hy, hy0⟩
  refine { h with hst := ?_, inj := fun b1 b2 g' c c' a1 a2 => h.inj b1 b2 g' c c' (hal _ a1) (hal _ a2), fresh := ?_ }
  · intro b' y hy
    rw [look_cons] at hy
    split at hy
    · cases hy; trivial
    · exact h.hst b' y hy
  · intro b' hb'
    obtain ⟨e1, e2⟩ := h.fresh b' hb'
    refine ⟨?_, e2⟩
    rw [look_cons, if_neg (fun e => by subst e; rw [hl] at e1; cases e1)]
    exact e1

/-- Seen from here on. -/
theorem RelM.base (h : RelM O w0 M0 N0 U m sz tm st a w) {n : Nat} (hn : ∀ b, U b → n ≤ b) : RelM O w m n U m sz tm st a w :=
  { htm := h.htm, hsz := h.hsz, hst := h.hst, inj := h.inj, fresh := h.fresh, un := hn, mlt := h.mlt, pin := fun _ _ e => e, low := fun _ _ e => .inl e, below := Own.refl _ _, hb := fun g hg => h.hb g (Nat.le_trans h.below.size hg) }

theorem RelM.comp (h : RelM O w0 M0 N0 U m sz tm st a w) {N1 : Nat} (hN : N0 ≤ N1) {U' : Nat → Prop} {m' : MM} {sz' : Nat} {tm' : TW} {st' : SB} {a' : Act} {w' : World} (k : RelM O w m N1 U' m' sz' tm' st' a' w') :
    RelM O w0 M0 N0 U' m' sz' tm' st' a' w' :=
  { htm := k.htm, hsz := k.hsz, hst := k.hst, inj := k.inj, fresh := k.fresh, un := fun b hb => Nat.le_trans hN (k.un b hb), mlt := k.mlt, pin := fun b y e => k.pin b y (h.pin b y e),
    low := fun b g e => (k.low b g e).elim (h.low b g) (fun h => .inr (Nat.le_trans hN h)), below := h.below.trans k.below, hb := h.hb }

/-- The memory alone. -/
abbrev RelH (O : Nat → Prop) (w0 : World) (M0 : MM) (N0 top : Nat) (m : MM) (st : SB) (w : World) : Prop := RelM O w0 M0 N0 (fun b => top ≤ b) m 0 [] st ⟨#[], []⟩ w

theorem RelM.heap {top : Nat} (h : RelM O w0 M0 N0 (fun b => top ≤ b) m sz tm st a w) : RelH O w0 M0 N0 top m st w := h.act (tm' := []) (a' := ⟨#[], []⟩) (fun i => trivial) rfl
end

/-- The value of a constant, of a result: cells apart. -/
def toW0 (x : Value) : W := match x with
  | .agg arr => if arr.toList.all (·.oneCell') then .agg (arr.toList.map W.v) else .v x
  | x => .v x
def toW (x : Value) : W := match x with
  | .tuple arr => .tup (arr.toList.map toW0)
  | x => toW0 x
theorem RW_toW0 {m : MM} (x : Value) : RW m (toW0 x) x := by
  cases x with
  | agg arr =>
    simp only [toW0]
    split
    · next h => exact ⟨arr, rfl, RWs_vals fun x hx => List.all_eq_true.1 h x hx⟩
    · rfl
  | _ => exact rfl
theorem RW_toW {m : MM} (x : Value) : RW m (toW x) x := by
  unfold toW
  split
  · next arr =>
    refine ⟨arr, rfl, ?_⟩
    rw [RWs_iff]
    refine ⟨by simp, fun i c x hc hx => ?_⟩
    rw [List.getElem?_map, hx] at hc
    cases hc
    exact ⟨RW_toW0 _, fun e => by cases e⟩
  · exact RW_toW0 _

noncomputable def evW (tm : TW) : Operand → W
  | .tmp t => (look tm t).getD .top
  | .const x => toW x
  | .func f => .fn f []
  | .global _ => .top

theorem RelM.ev {O : Nat → Prop} {w0 : World} {M0 : MM} {N0 : Nat} {U : Nat → Prop} {m : MM} {sz : Nat} {tm : TW} {st : SB} {a : Act} {w : World} (h : RelM O w0 M0 N0 U m sz tm st a w) (x : Operand) : RW m (evW tm x) (a.eval x) := by
  cases x with
  | tmp t => exact h.htm t
  | const v => exact RW_toW v
  | func f => exact ⟨#[], rfl, by simp [RWs]⟩
  | global g => exact trivial

/-! A value without memory, as the model has it. -/
mutual
def pl : W → Option Value
  | .v x => some x
  | .agg cs => match pls cs with
    | some xs => some (.agg xs.toArray)
    | none => none
  | .tup cs => match pls cs with
    | some xs => some (.tuple xs.toArray)
    | none => none
  | .fn g caps => match caps with
    | [] => some (.func (.func g) #[] #[])
    | _ :: _ => none
  | .ifc t c => match pl c with
    | some x => some (.iface t x)
    | none => none
  | .top => none
  | .ptr _ _ => none
  | .sl _ _ _ _ => none
  | .mp _ => none
  | .yld _ => none
def pls : List W → Option (List Value)
  | [] => some []
  | c :: cs => match pl c, pls cs with
    | some x, some xs => some (x :: xs)
    | _, _ => none
end
mutual
theorem pl_RW {m : MM} : ∀ (c : W) (x y : Value), pl c = some x → RW m c y → y = x
  | .v z, x, y, h, hr => by simp only [pl, Option.some.injEq] at h; subst h; exact hr
  | .agg cs, x, y, h, hr => by
    simp only [pl] at h
    obtain ⟨arr, rfl, hr⟩ := hr
    cases hp : pls cs with
    | none => simp [hp] at h
    | some xs => simp only [hp, Option.some.injEq] at h; subst h; rw [← pls_RW cs xs _ hp hr]
  | .tup cs, x, y, h, hr => by
    simp only [pl] at h
    obtain ⟨arr, rfl, hr⟩ := hr
    cases hp : pls cs with
    | none => simp [hp] at h
    | some xs => simp only [hp, Option.some.injEq] at h; subst h; rw [← pls_RW cs xs _ hp hr]
  | .fn g [], x, y, h, hr => by
    simp only [pl, Option.some.injEq] at h
    obtain ⟨arr, rfl, hr⟩ := hr
    have := RWs_length hr
    subst h
    have e : arr = #[] := by apply Array.ext'; simpa using (List.eq_nil_of_length_eq_zero this.symm)
    rw [e]
  | .fn g (_ :: _), x, y, h, hr => by simp [pl] at h
  | .ifc t c, x, y, h, hr => by
    simp only [pl] at h
    obtain ⟨z, rfl, hr⟩ := hr
    cases hp : pl c with
    | none => simp [hp] at h
    | some u => simp only [hp, Option.some.injEq] at h; subst h; rw [pl_RW c u z hp hr]
  | .top, _, _, h, _ => by simp [pl] at h
  | .ptr _ _, _, _, h, _ => by simp [pl] at h
  | .sl _ _ _ _, _, _, h, _ => by simp [pl] at h
  | .mp _, _, _, h, _ => by simp [pl] at h
  | .yld _, _, _, h, _ => by simp [pl] at h
theorem pls_RW {m : MM} {one : Bool} : ∀ (cs : List W) (xs ys : List Value), pls cs = some xs → RWs m one cs ys → ys = xs
  | [], xs, ys, h, hr => by
    simp only [pls, Option.some.injEq] at h
    subst h
    cases ys with
    | nil => rfl
    | cons y ys => simp [RWs] at hr
  | c :: cs, xs, ys, h, hr => by
    cases ys with
    | nil => simp [RWs] at hr
    | cons y ys =>
      simp only [RWs] at hr
      simp only [pls] at h
      cases h1 : pl c with
      | none => simp [h1] at h
      | some x =>
        cases h2 : pls cs with
        | none => simp [h1, h2] at h
        | some xs' =>
          simp only [h1, h2, Option.some.injEq] at h
          subst h
          rw [pl_RW c x y h1 hr.1.1, pls_RW cs xs' ys h2 hr.2]
end
end Go.Ev.Mi
/- The mirror machine: what the operations do. -/
set_option linter.unusedVariables false
set_option linter.unusedSimpArgs false
namespace Go.Ev.Mi
open Go.RowKit
noncomputable section

/-- A computation that touches no memory and asks nothing. -/
def prS {α : Type} (P : Program) (s : Sem α) : Option α :=
  Sem.rec (motive := fun _ => Option α) (fun a => some a) (fun _ _ _ _ => none) (fun _ _ _ _ _ => none) (fun _ _ _ => none) (fun _ _ _ => none) (fun _ _ _ _ => none) (fun _ _ _ => none)
    (fun _ _ _ => none) (fun _ _ _ _ => none) (fun q _ ih => match q.forced with | true => ih 0 | false => none) (fun _ _ _ => none) (fun _ ih => ih P) (fun _ _ ih => ih) (fun _ => none) s

theorem prS_run {α : Type} {P : Program} : ∀ (s : Sem α) (a : α) (w : World), prS P s = some a → s.run P w = .ok a w
  | .pure b, a, w, h => by cases h; rfl
  | .program k, a, w, h => by
    show (k P).run P w = _
    exact prS_run (k P) a w h
  | .mark _ k, a, w, h => prS_run k a w h
  | .choose q k, a, w, h => by
    have h : (match q.forced with | true => prS P (k 0) | false => none) = some a := h
    cases hq : q.forced with
    | true =>
      rw [hq] at h
      simp only [Sem.run, hq, if_true]
      exact prS_run (k 0) a w h
    | false => rw [hq] at h; cases h
  | .load .., _, _, h => by cases h
  | .store .., _, _, h => by cases h
  | .new .., _, _, h => by cases h
  | .shape .., _, _, h => by cases h
  | .freeze .., _, _, h => by cases h
  | .frozen .., _, _, h => by cases h
  | .getObj .., _, _, h => by cases h
  | .setObj .., _, _, h => by cases h
  | .sys .., _, _, h => by cases h
  | .halt _, _, _, h => by cases h

inductive T where
  | fail
  | ret (v : W)
  | dec (p : Prop) (k : T) [d : Decidable p]
  | get (b : Nat) (k : B → T)
  | put (b : Nat) (x : B) (k : T)

def T.x : T → SB → List Nat → SB → Option (W × SB × List Nat × SB)
  | .fail, _, _, _ => none
  | .ret v, st, rs, us => some (v, st, rs, us)
  | @T.dec _ k d, st, rs, us => match d with
    | .isTrue _ => k.x st rs us
    | .isFalse _ => none
  | .get b k, st, rs, us => match look st b with
    | some y => (k y).x st (b :: rs) us
    | none => none
  | .put b y k, st, rs, us => k.x ((b, y) :: st) rs ((b, y) :: us)

def T.go : T → SB → (W → SB → Prop) → Prop
  | .fail, _, _ => False
  | .ret v, st, K => K v st
  | @T.dec p k _, st, K => p ∧ k.go st K
  | .get b k, st, K => match look st b with
    | some x => (k x).go st K
    | none => False
  | .put b x k, st, K => k.go ((b, x) :: st) K

theorem T.x_dec {p : Prop} [d : Decidable p] {k : T} {st : SB} {rs : List Nat} {us : SB} {z : W × SB × List Nat × SB} (h : (T.dec p k).x st rs us = some z) : p ∧ k.x st rs us = some z := by
  cases d with
  | isTrue hp => exact ⟨hp, h⟩
  | isFalse _ => cases h

theorem T.x_go {K : W → SB → Prop} : ∀ (t : T) (st : SB) (rs : List Nat) (us : SB) (v : W) (st' : SB) (rs' : List Nat) (us' : SB), t.x st rs us = some (v, st', rs', us') → K v st' → t.go st K
  | .fail, _, _, _, _, _, _, _, h, _ => by cases h
  | .ret _, _, _, _, _, _, _, _, h, hk => by cases h; exact hk
  | @T.dec p k d, st, rs, us, v, st', rs', us', h, hk => by
    obtain ⟨hp, h⟩ := T.x_dec h
    exact ⟨hp, x_go k st rs us v st' rs' us' h hk⟩
  | .get b k, st, rs, us, v, st', rs', us', h, hk => by
    unfold T.x at h
    unfold T.go
    cases hy : look st b with
    | some y => rw [hy] at h; exact x_go (k y) st _ us v st' rs' us' h hk
    | none => rw [hy] at h; cases h
  | .put b y k, st, rs, us, v, st', rs', us', h, hk => x_go k _ rs _ v st' rs' us' h hk

/-- What a run adds; and it is the same where what it reads is the same. -/
theorem T.x_us : ∀ (t : T) (st : SB) (rs : List Nat) (us : SB) (v : W) (st' : SB) (rs' : List Nat) (us' : SB), t.x st rs us = some (v, st', rs', us') →
    ∃ vs, us' = vs ++ us ∧ st' = vs ++ st ∧ (∀ b ∈ rs, b ∈ rs') ∧ ∀ (st2 : SB), (∀ b ∈ rs', look st2 b = look st b) → t.x st2 rs us = some (v, vs ++ st2, rs', us')
  | .fail, _, _, _, _, _, _, _, h => by cases h
  | .ret _, _, _, _, _, _, _, _, h => by cases h; exact ⟨[], rfl, rfl, fun _ e => e, fun _ _ => rfl⟩
  | @T.dec p k d, st, rs, us, v, st', rs', us', h => by
    obtain ⟨hp, h⟩ := T.x_dec h
    obtain ⟨vs, h1, h2, h3, h4⟩ := x_us k st rs us v st' rs' us' h
    refine ⟨vs, h1, h2, h3, fun st2 h5 => ?_⟩
    cases d with
    | isTrue _ => exact h4 st2 h5
    | isFalse e => exact absurd hp e
  | .get b k, st, rs, us, v, st', rs', us', h => by
    simp only [T.x] at h
    split at h
    · next y hy =>
      obtain ⟨vs, h1, h2, h3, h4⟩ := x_us (k y) st _ us v st' rs' us' h
      refine ⟨vs, h1, h2, fun c hc => h3 c (List.mem_cons_of_mem _ hc), fun st2 h5 => ?_⟩
      simp only [T.x]
      rw [h5 b (h3 b List.mem_cons_self), hy]
      exact h4 st2 h5
    · cases h
  | .put b y k, st, rs, us, v, st', rs', us', h => by
    obtain ⟨vs, h1, h2, h3, h4⟩ := x_us k _ rs _ v st' rs' us' h
    refine ⟨vs ++ [(b, y)], by simp [h1], by simp [h2], h3, fun st2 h5 => ?_⟩
    show k.x ((b, y) :: st2) rs ((b, y) :: us) = _
    rw [h4 ((b, y) :: st2) (fun c hc => by rw [look_cons, look_cons, h5 c hc])]
    simp

section
variable (P : Program)

def zeroW (t : TypeId) : Option (List W) := match P.info? t with
  | some i => match i.zero with
    | some z => match z.cells.toList.all (·.oneCell') && z.cells.size == i.size with
      | true => some (z.cells.toList.map W.v)
      | false => none
    | none => none
  | none => none

/-- The cells of a value that is stored. -/
def cellsW : W → Option (List W)
  | .agg cs => some cs
  | .v x => match x.oneCell' with
    | true => some [.v x]
    | false => none
  | .fn g caps => some [.fn g caps]
  | .ptr b off => some [.ptr b off]
  | .sl b off n c => some [.sl b off n c]
  | .mp b => some [.mp b]
  | .ifc t x => some [.ifc t x]
  | .yld _ => none
  | .top => none
  | .tup _ => none

/-- Read a variable of type t out of cells. -/
def takeW (t : TypeId) (cs : List W) (off : Nat) : T :=
  match aggOf P t, szOf P t with
  | some true, some n => .dec (off + n ≤ cs.length) (.ret (.agg ((cs.drop off).take n)))
  | some false, some _ => match cs[off]? with
    | some c => .ret c
    | none => .fail
  | _, _ => .fail

def fillW (place : Nat → Option (Nat × Nat)) (cells : List W) : List (Nat × W) → (List W → T) → T
  | [], k => k cells
  | (i, x) :: rest, k => match place i, cellsW x with
    | some (off, size), some cs => .dec (cs.length = size ∧ off + size ≤ cells.length) (fillW place (cells.take off ++ cs ++ cells.drop (off + size)) rest k)
    | _, _ => .fail

def retP : Option Value → T
  | some x => .ret (toW x)
  | none => .fail

/-- No operand leads to memory: the operation as the model does it. -/
def pureW (ρ : Operand → W) (o : Oper) : T := match o.op.operands.toList.all fun x => (pl (ρ x)).isSome with
  | true => match prS P (execOp (fun x => (pl (ρ x)).getD undef) o) with
    | some (.value x) => .ret (toW x)
    | some .skip => .ret .top
    | _ => .fail
  | false => .fail

def intW : W → Option (IntKind × Int)
  | .v (.int k n) => some (k, n)
  | _ => none
def natW : W → Option Nat
  | .v (.int _ (.ofNat n)) => some n
  | _ => none
def isNilW : W → Bool
  | .v (.slice none _ _) => true
  | .v (.pointer none) => true
  | .v (.map none) => true
  | .v .nilFunc => true
  | _ => false

/-- The cells of what is appended, copied. -/
def srcW (size : Nat) : W → (List W → Nat → T) → T
  | .sl b off n _, k => .get b fun
    | .cells cs _ _ => .dec (off + n * size ≤ cs.length) (k ((cs.drop off).take (n * size)) n)
    | _ => .fail
  | .v (.slice none 0 _), k => k [] 0
  | _, _ => .fail

def appendW (id : Nat) (t u : TypeId) (s x : W) : T :=
  .dec (t = u) (match elemOf? P t with
  | none => .fail
  | some e => match szOf P e, bytesOf P e, zeroW P e with
    | some size, some bytes, some _ => srcW size x fun new k => .dec (new.length = k * size ∧ 0 < size) (match k with
      | 0 => match s with
        | .sl b off n c => .ret (.sl b off n c)
        | .v (.slice none 0 0) => .ret (.v (.slice none 0 0))
        | _ => .fail
      | _ + 1 => match s with
        | .v (.slice none 0 0) => .dec (k ≤ maxLen ∧ k * bytes ≤ 140737488355328) (.put id (.cells new e size) (.ret (.sl id 0 k none)))
        | .sl b off n (some c) => .get b fun
          | .cells cs e' size' => match Nat.ble (n + k) c with
            | true => .dec (e' = e ∧ off + (n + k) * size ≤ cs.length) (.put b (.cells (cs.take (off + n * size) ++ new ++ cs.drop (off + n * size + k * size)) e' size') (.ret (.sl b off (n + k) (some c))))
            | false => .dec (off + n * size ≤ cs.length ∧ n + k ≤ maxLen ∧ (n + k) * bytes ≤ 140737488355328) (.put id (.cells ((cs.drop off).take (n * size) ++ new) e size) (.ret (.sl id 0 (n + k) none)))
          | _ => .fail
        | .sl b 0 n none => .get b fun
          | .cells cs e' size' => match Nat.ble ((n + k) * size) cs.length with
            | true => .dec (e' = e ∧ size' = size) (.put b (.cells (cs.take (0 + n * size) ++ new ++ cs.drop (0 + n * size + k * size)) e' size') (.ret (.sl b 0 (n + k) none)))
            | false => .dec (e' = e ∧ size' = size ∧ n * size = cs.length ∧ n + k ≤ maxLen ∧ (n + k) * bytes ≤ 140737488355328) (.put b .dead (.put id (.cells (cs ++ new) e size) (.ret (.sl id 0 (n + k) none))))
          | _ => .fail
        | _ => .fail)
    | _, _, _ => .fail)

def copyW (t : TypeId) (s x : W) : T := match elemOf? P t with
  | none => .fail
  | some e => match szOf P e, s with
    | some 1, .sl b off n _ => srcW 1 x fun new k => match Nat.min k n with
      | 0 => .ret (.v (.int .i64 0))
      | j + 1 => .get b fun
        | .cells cs e' size' => .dec (off + (j + 1) ≤ cs.length ∧ new.length = k) (.put b (.cells (cs.take off ++ new.take (j + 1) ++ cs.drop (off + (j + 1))) e' size') (.ret (.v (.int .i64 ((j + 1 : Nat) : Int)))))
        | _ => .fail
    | _, _ => .fail

def boundW (ρ : Operand → W) (o : Option Operand) (d : Nat) : Option Nat := match o with
  | none => some d
  | some o => natW (ρ o)

def sliceW (ρ : Operand → W) (t : TypeId) (x : Operand) (lo hi mx : Option Operand) : T := match ρ x with
  | .sl b off n cap => match elemOf? P t with
    | some e => match szOf P e, boundW ρ lo 0, boundW ρ hi n with
      | some size, some i, some j => match mx, cap with
        | none, none => .dec (0 < size ∧ i ≤ j ∧ j ≤ n) (.ret (.sl b (off + i * size) (j - i) none))
        | none, some c => .dec (i ≤ j ∧ j ≤ c) (.ret (.sl b (off + i * size) (j - i) (some (c - i))))
        | some k, none => match hi, natW (ρ k) with
          | some _, some k => .dec (i ≤ j ∧ j ≤ k ∧ k ≤ n) (.ret (.sl b (off + i * size) (j - i) (some (k - i))))
          | _, _ => .fail
        | some k, some c => match hi, natW (ρ k) with
          | some _, some k => .dec (i ≤ j ∧ j ≤ k ∧ k ≤ c) (.ret (.sl b (off + i * size) (j - i) (some (k - i))))
          | _, _ => .fail
      | _, _, _ => .fail
    | none => .fail
  | _ => .fail

/-- Where a key stands among keys. -/
def findNowK (kind : TypeDesc) (k : Value) : List Value → Nat → Option (Option Nat)
  | [], _ => some none
  | e :: es, i => match Instr.sameNow kind k e with
    | some true => some (some i)
    | some false => findNowK kind k es (i + 1)
    | none => none
def findAskK (kt : TypeId) (k : Value) : List Value → Nat → Option (Option Nat)
  | [], _ => some none
  | e :: es, i => match prS P (Op.equal kt k e) with
    | some true => some (some i)
    | some false => findAskK kt k es (i + 1)
    | none => none
def findK (kt : TypeId) (k : Value) (es : List Value) : Option (Option Nat) := match P.underlying kt with
  | none => none
  | some d => match findNowK d k es 0 with
    | some r => some r
    | none => findAskK P kt k es 0

def mapOf? (t : TypeId) : Option (TypeId × TypeId) := match P.underlying t with
  | some (.map k e) => some (k, e)
  | _ => none

def zeroV (t : TypeId) : Option Value := match P.info? t with
  | some i => i.zero
  | none => none

def okKey (emp : Bool) (kt : TypeId) (k : Value) : Bool := (prS P (Instr.checkKey emp 10000 kt k)).isSome

def lookupW (ρ : Operand → W) (t : TypeId) (x i : Operand) (ok : Bool) : T := match mapOf? P t, pl (ρ i) with
  | some (kt, et), some k => match ρ x with
    | .mp b => .get b fun
      | .map es _ => match okKey P es.isEmpty kt k with
        | true => match findK P kt k (es.map (·.1)), zeroV P et with
          | some (some j), _ => match es[j]? with
            | some e => .ret (match ok with | true => .tup [e.2.1, .v (.bool true)] | false => e.2.1)
            | none => .fail
          | some none, some z => .ret (match ok with | true => .tup [toW0 z, .v (.bool false)] | false => toW0 z)
          | _, _ => .fail
        | false => .fail
      | _ => .fail
    | .v (.map none) => match okKey P true kt k, findK P kt k [], zeroV P et with
      | true, some none, some z => .ret (match ok with | true => .tup [toW0 z, .v (.bool false)] | false => toW0 z)
      | _, _, _ => .fail
    | _ => .fail
  | _, _ => .fail

def updateW (ρ : Operand → W) (t : TypeId) (x i v : Operand) : T := match mapOf? P t, pl (ρ i), ρ x with
  | some (kt, et), some k, .mp b => .get b fun
    | .map es clock => match okKey P false kt k with
      | true => match findK P kt k (es.map (·.1)) with
        | some (some j) => match es[j]? with
          | some e => match Instr.sameBits 10000 e.1 k with
            | true => .put b (.map (es.set j (k, ρ v, e.2.2)) clock) (.ret .top)
            | false => .fail
          | none => .fail
        | some none => .put b (.map (es ++ [(k, ρ v, clock)]) (clock + 1)) (.ret .top)
        | none => .fail
      | false => .fail
    | _ => .fail
  | _, _, _ => .fail

def intBinW (op : BinOp) (k : IntKind) (a b : Int) : T :=
  match op with
  | .add => .ret (.v (.int k (k.wrap (a + b))))
  | .sub => .ret (.v (.int k (k.wrap (a - b))))
  | .mul => .ret (.v (.int k (k.wrap (a * b))))
  | .quo => .dec (b ≠ 0) (.ret (.v (.int k (k.wrap (a.tdiv b)))))
  | .rem => .dec (b ≠ 0) (.ret (.v (.int k (a.tmod b))))
  | .eql => .ret (.v (.bool (a == b)))
  | .neq => .ret (.v (.bool (a != b)))
  | .lss => .ret (.v (.bool (decide (a < b))))
  | .leq => .ret (.v (.bool (decide (a ≤ b))))
  | .gtr => .ret (.v (.bool (decide (a > b))))
  | .geq => .ret (.v (.bool (decide (a ≥ b))))
  | _ => .fail
def intOp : BinOp → Bool
  | .add | .sub | .mul | .quo | .rem | .eql | .neq | .lss | .leq | .gtr | .geq => true
  | _ => false

/-- Is a value that leads to memory nil? -/
def nilCmp (op : BinOp) : T := match op with
  | .eql => .ret (.v (.bool false))
  | .neq => .ret (.v (.bool true))
  | _ => .fail

def binW (ρ : Operand → W) (o : Oper) (op : BinOp) (t : TypeId) (x y : Operand) : T := match ρ x, ρ y with
  | .v (.int k a), .v (.int j b) => match intOp op with
    | true => .dec (k = j) (intBinW op k a b)
    | false => pureW P ρ o
  | .sl _ _ _ _, .v (.slice none 0 0) => match P.underlying t with
    | some (.slice _) => nilCmp op
    | _ => .fail
  | .ptr _ _, .v (.pointer none) => match P.underlying t with
    | some (.pointer _) => nilCmp op
    | _ => .fail
  | _, _ => pureW P ρ o

def opM (id : Nat) (ρ : Operand → W) (o : Oper) : T := match o.op with
  | .move x => .ret (ρ x)
  | .assign x => .ret (ρ x)
  | .pick c a b => match ρ c with
    | .v (.bool true) => .ret (ρ a)
    | .v (.bool false) => .ret (ρ b)
    | _ => .fail
  | .alloc t => match zeroW P t with
    | some z => .put id (.cells z t 0) (.ret (.ptr id 0))
    | none => .fail
  | .box t x => match cellsW (ρ x) with
    | some cs => .put id (.cells cs t 0) (.ret (.ptr id 0))
    | none => .fail
  | .build t parts => match zeroW P t, placesOf P t with
    | some z, some pl => fillW pl z (parts.toList.map fun (i, x) => (i, ρ x)) fun cs => .ret (.agg cs)
    | _, _ => .fail
  | .buildSlice t n parts => match elemOf? P t with
    | some e => match szOf P e, zeroW P e with
      | some size, some z => .dec (0 < size ∧ n * size ≤ 2 ^ 24)
          (fillW (fun i => some (i * size, size)) (List.replicate n z).flatten (parts.toList.map fun (i, x) => (i, ρ x)) fun cs =>
            .put id (.cells cs e size) (.ret (.sl id 0 n (some n))))
      | _, _ => .fail
    | none => .fail
  | .load t a => match ρ a with
    | .ptr b off => .get b fun
      | .cells cs _ _ => takeW P t cs off
      | _ => .fail
    | _ => .fail
  | .store t a x => match ρ a, cellsW (ρ x), szOf P t with
    | .ptr b off, some new, some n => .get b fun
      | .cells cs e size => .dec (new.length = n ∧ off + n ≤ cs.length) (.put b (.cells (cs.take off ++ new ++ cs.drop (off + n)) e size) (.ret .top))
      | _ => .fail
    | _, _, _ => .fail
  | .nilCheck x => match ρ x with
    | .ptr b off => .ret (.ptr b off)
    | .fn g caps => .ret (.fn g caps)
    | .ifc t x => .ret (.ifc t x)
    | _ => .fail
  | .binOp op t x y _ => binW P ρ o op t x y
  | .makeFunc fn first caps => match fn, first.toList with
    | .func g, [] => .ret (.fn g (caps.toList.map ρ))
    | _, _ => .fail
  | .makeInterface t x => match P.underlying t with
    | some (.interface _) => .fail
    | none => .fail
    | some _ => .ret (.ifc t (ρ x))
  | .typeAssert x xt asserted ok => match ρ x with
    | .ifc t y => match P.underlying asserted with
      | some (.interface _) => .fail
      | none => .fail
      | some _ => match Nat.beq t asserted with
        | true => .ret (match ok with | true => .tup [y, .v (.bool true)] | false => y)
        | false => match ok, zeroV P asserted with
          | true, some z => .ret (.tup [toW0 z, .v (.bool false)])
          | _, _ => .fail
    | _ => pureW P ρ o
  | .makeMap t r => match r with
    | none => .put id (.map [] 0) (.ret (.mp id))
    | some r => match intW (ρ r), mapOf? P t with
      | some _, some _ => .put id (.map [] 0) (.ret (.mp id))
      | _, _ => .fail
  | .lookup t x i ok => lookupW P ρ t x i ok
  | .mapUpdate t x i v => updateW P ρ t x i v
  | .insert t x i v => updateW P ρ t x i v
  | .slice t x lo hi mx => match ρ x with
    | .v _ => pureW P ρ o
    | _ => sliceW P ρ t x lo hi mx
  | .fieldAddr s x f => match ρ x, fieldAt? P s f with
    | .ptr b off, some (i, t) => match szOf P t with
      | some (_ + 1) => .ret (.ptr b (off + i))
      | _ => .fail
    | _, _ => .fail
  | .field s x f => match ρ x, fieldAt? P s f with
    | .agg cs, some (i, t) => takeW P t cs i
    | _, _ => .fail
  | .indexAddr t x i => match ρ x, natW (ρ i) with
    | .sl b off n _, some j => match elemOf? P t with
      | some e => match szOf P e with
        | some size => .dec (j < n) (.ret (.ptr b (off + j * size)))
        | none => .fail
      | none => .fail
    | .ptr b off, some j => match arrOf? P t with
      | some (n, e) => match szOf P e with
        | some size => .dec (j < n) (.ret (.ptr b (off + j * size)))
        | none => .fail
      | none => .fail
    | _, _ => .fail
  | .index t x i => match ρ x with
    | .agg cs => match natW (ρ i), arrOf? P t with
      | some j, some (n, e) => match szOf P e with
        | some size => .dec (j < n) (takeW P e cs (j * size))
        | none => .fail
      | _, _ => .fail
    | _ => pureW P ρ o
  | .extract x i => match ρ x with
    | .tup vs => match vs[i]? with
      | some c => .ret c
      | none => .fail
    | _ => .fail
  | .makeSlice t n c => match ρ n, ρ c, elemOf? P t with
    | .v (.int .i64 (.ofNat i)), .v (.int .i64 (.ofNat j)), some e => match szOf P e, bytesOf P e, zeroW P e with
      | some size, some bytes, some z => .dec (i ≤ j ∧ j * bytes ≤ 281474976710656 ∧ 0 < size ∧ j ≤ maxLen)
          (.put id (.cells (List.replicate j z).flatten e size) (.ret (.sl id 0 i (some j))))
      | _, _, _ => .fail
    | _, _, _ => .fail
  | .call { callee := .builtin b, args, argTypes } => match b, args.toList, argTypes.toList with
    | .append, [s, x], [t, u] => appendW P id t u (ρ s) (ρ x)
    | .copy, [s, x], [t, _] => copyW P t (ρ s) (ρ x)
    | .len, [x], [t] => match ρ x with
      | .sl _ _ n _ => match elemOf? P t with
        | some _ => .ret (.v (.int .i64 (n : Int)))
        | none => .fail
      | .mp b => match mapOf? P t with
        | some _ => .get b fun
          | .map es _ => .ret (.v (.int .i64 (es.length : Int)))
          | _ => .fail
        | none => .fail
      | _ => pureW P ρ o
    | .cap, [x], [t] => match ρ x with
      | .sl _ _ _ (some c) => match elemOf? P t with
        | some _ => .ret (.v (.int .i64 (c : Int)))
        | none => .fail
      | _ => pureW P ρ o
    | _, _, _ => pureW P ρ o
  | .call _ => .fail
  | .go _ => .fail
  | .defer _ => .fail
  | .select _ _ => .fail
  | _ => pureW P ρ o
end
end
end Go.Ev.Mi
/- The mirror machine: the operations are done as the model does them. -/
set_option linter.unusedVariables false
set_option linter.unusedSimpArgs false
namespace Go.Ev.Mi
open Go.RowKit

section
variable {P : Program}

/-- An operation is done. -/
def Did (P : Program) (o : Oper) (a : Act) (w : World) (O : Nat → Prop) (w0 : World) (M0 : MM) (N0 : Nat) (U : Nat → Prop) (m : MM) (sz : Nat) (tm : TW) (id : Nat) (K : W → SB → Prop) : Prop :=
  ∃ n x w' m' v st', (execOp a.eval o).run P w = .ok n w' ∧ (n = .value x ∨ (n = .skip ∧ x = undef)) ∧ RelM O w0 M0 N0 (fun b => U b ∧ b ≠ id) m' sz tm st' a w' ∧ (∀ b y, m b = some y → m' b = some y) ∧ RW m' v x ∧ K v st'

section
variable {O : Nat → Prop} {w0 : World} {M0 : MM} {N0 : Nat} {U : Nat → Prop} {m : MM} {sz : Nat} {tm : TW} {st : SB} {a : Act} {w : World} {id : Nat} {K : W → SB → Prop} {o : Oper} {ρ : Operand → W}

theorem did_val (h : RelM O w0 M0 N0 U m sz tm st a w) {c : W} {x : Value} (hr : (execOp a.eval o).run P w = .ok (.value x) w) (hx : RW m c x) (hk : K c st) : Did P o a w O w0 M0 N0 U m sz tm id K :=
  ⟨_, x, w, m, c, st, hr, .inl rfl, h.weakU fun _ e => e.1, fun _ _ e => e, hx, hk⟩

theorem pure_d (h : RelM O w0 M0 N0 U m sz tm st a w) (hs : ∀ cs b, o.op ≠ .select cs b) (hρ : ∀ x ∈ o.op.operands, RW m (ρ x) (a.eval x)) (hg : (pureW P ρ o).go st K) : Did P o a w O w0 M0 N0 U m sz tm id K := by
  unfold pureW at hg
  split at hg
  · next hall =>
    have hc : execOp a.eval o = execOp (fun x => (pl (ρ x)).getD undef) o := by
      refine execOp_congr o hs fun x hx => ?_
      have := List.all_eq_true.1 hall x (Array.mem_toList_iff.2 hx)
      obtain ⟨v, hv⟩ := Option.isSome_iff_exists.1 this
      simp only [hv, Option.getD_some]
      exact pl_RW _ _ _ hv (hρ x hx)
    split at hg
    · next x hp =>
      refine did_val h (c := toW x) (x := x) ?_ (RW_toW x) hg
      rw [hc]; exact prS_run _ _ _ hp
    · next hp =>
      refine ⟨_, undef, w, m, .top, st, ?_, .inr ⟨rfl, rfl⟩, h.weakU fun _ e => e.1, fun _ _ e => e, trivial, hg⟩
      rw [hc]; exact prS_run _ _ _ hp
    · cases hg
  · cases hg

theorem zeroW_run {t : TypeId} {z : List W} (w : World) (h : zeroW P t = some z) : ∃ v, (zeroValue t).run P w = .ok v w ∧ z = v.cells.toList.map W.v ∧ (∀ x ∈ v.cells.toList, x.oneCell' = true) ∧
    ∃ i, P.info? t = some i ∧ i.zero = some v ∧ v.cells.size = i.size := by
  simp only [zeroW] at h
  cases hi : P.info? t with
  | none => simp [hi] at h
  | some i =>
    rw [hi] at h
    cases hz : i.zero with
    | none => simp [hz] at h
    | some v =>
      simp only [hz] at h
      split at h
      · next hc =>
        simp only [Bool.and_eq_true, List.all_eq_true, beq_iff_eq] at hc
        cases h
        exact ⟨v, by simp [zeroValue, typeInfo, hi, hz], rfl, hc.1, i, rfl, hz, hc.2⟩
      · cases h

theorem zeroV_run {t : TypeId} {z : Value} (w : World) (h : zeroV P t = some z) : (zeroValue t).run P w = .ok z w := by
  simp only [zeroV] at h
  cases hi : P.info? t with
  | none => simp [hi] at h
  | some i => simp [hi] at h; simp [zeroValue, typeInfo, hi, h]

theorem elem_u {t e : TypeId} (he : elemOf? P t = some e) : P.underlying t = some (.slice e) := by simp only [elemOf?] at he; split at he <;> simp_all
theorem arr_u {t e : TypeId} {n : Nat} (he : arrOf? P t = some (n, e)) : P.underlying t = some (.array n e) := by simp only [arrOf?] at he; split at he <;> simp_all
theorem map_u {t k e : TypeId} (he : mapOf? P t = some (k, e)) : P.underlying t = some (.map k e) := by simp only [mapOf?] at he; split at he <;> simp_all
theorem field_u {s t : TypeId} {f i : Nat} (hf : fieldAt? P s f = some (i, t)) : ∃ fs x0, P.underlying s = some (.struct fs) ∧ fs[f]? = some x0 ∧ x0.offset = i ∧ x0.type = t := by
  simp only [fieldAt?] at hf
  split at hf
  · next fs hu =>
    cases h0 : fs[f]? with
    | none => simp [h0] at hf
    | some x0 => simp [h0] at hf; exact ⟨fs, x0, hu, h0, hf.1, hf.2⟩
  · cases hf

theorem natW_val {c : W} {n : Nat} {x : Value} (h : natW c = some n) (hx : RW m c x) : ∃ k, x = .int k (n : Int) := by
  unfold natW at h
  split at h
  · next k n' => cases h; exact ⟨k, hx⟩
  · cases h

/-- What a box of cells says of its cells. -/
theorem cells_len {cs : List W} {l : List Value} (h : RWs m true cs (l.take cs.length)) : cs.length ≤ l.length := by
  have := RWs_length h
  rw [List.length_take] at this
  omega
theorem cells_get {cs : List W} {l : List Value} (h : RWs m true cs (l.take cs.length)) {i : Nat} {c : W} (hc : cs[i]? = some c) : ∃ y, l[i]? = some y ∧ RW m c y ∧ y.oneCell' = true := by
  have hi : i < cs.length := (List.getElem?_eq_some_iff.1 hc).1
  have hl := cells_len h
  have hx : l[i]? = some (l[i]'(by omega)) := List.getElem?_eq_getElem (by omega)
  have := (RWs_iff.1 h).2 i c (l[i]'(by omega)) hc (by rw [List.getElem?_take, if_pos hi, hx])
  exact ⟨_, hx, this.1, this.2 rfl⟩
theorem cells_sub {cs : List W} {l : List Value} (h : RWs m true cs (l.take cs.length)) {off n : Nat} (hn : off + n ≤ cs.length) : RWs m true ((cs.drop off).take n) ((l.drop off).take n) := by
  have := RWs_take (RWs_drop h off) n
  rw [List.drop_take, List.take_take, Nat.min_eq_left (by omega)] at this
  exact this

theorem take_sound {t : TypeId} {cs : List W} {i : Nat} {xs : List Value} (hg : (takeW P t cs i).go st K) (hc : RWs m true cs (xs.take cs.length)) :
    ∃ c x, RW m c x ∧ K c st ∧ (∀ g, cellsAt w.heap g = xs → (Instr.loadAt t (.pointer (some ⟨g, i, none⟩))).run P w = .ok x w) ∧ (xs.length = cs.length → (part t xs.toArray i).run P w = .ok x w) := by
  have hl := cells_len hc
  unfold takeW at hg
  split at hg
  · next n ha hs =>
    obtain ⟨hi, hk⟩ := hg
    have hex : ((xs.drop i).take n).toArray = xs.toArray.extract i (i + n) := by
      apply Array.ext'
      simp [Array.toList_extract, List.extract]
    refine ⟨.agg ((cs.drop i).take n), .agg ((xs.drop i).take n).toArray, ⟨_, rfl, by simpa using cells_sub hc hi⟩, hk, ?_, ?_⟩
    · intro g he
      rw [load_agg_run ha hs (by rw [he]; omega), he]
    · intro _
      simp only [part, Sem.run_bind, isAgg_run ha, Result.andThen_ok, if_true, sz_run hs, Sem.run_pure, hex]
  · next n ha hs =>
    split at hg
    · next c hc' =>
      obtain ⟨y, hy, hr, ho⟩ := cells_get hc hc'
      refine ⟨c, y, hr, hg, ?_, ?_⟩
      · intro g he
        exact load_one_run ha (by rw [he]; exact hy)
      · intro _
        simp [part, isAgg_run ha, hy]
    · cases hg
  · cases hg

theorem getO {b : Nat} {k : B → T} (hg : (T.get b k).go st K) : ∃ y, look st b = some y ∧ (k y).go st K := by
  unfold T.go at hg
  cases hl : look st b with
  | none => rw [hl] at hg; cases hg
  | some y => rw [hl] at hg; exact ⟨y, rfl, hg⟩

theorem load_d (h : RelM O w0 M0 N0 U m sz tm st a w) {t : TypeId} {x : Operand} (ho : o.op = .load t x) (hx : RW m (ρ x) (a.eval x)) (hg : (opM P id ρ o).go st K) : Did P o a w O w0 M0 N0 U m sz tm id K := by
  simp only [opM, ho] at hg
  split at hg
  · next b off hb =>
    rw [hb] at hx
    obtain ⟨g, C, hm, hx'⟩ := hx
    replace hg := getO hg
    obtain ⟨y, hl, hg⟩ := hg
    split at hg
    · next cs e size =>
      obtain ⟨g', C', arr, h1, h2, h3, h4, h5⟩ := h.hst b _ hl
      rw [hm] at h1; cases h1
      obtain ⟨c, v, hv, hk, hrun, _⟩ := take_sound (w := w) hg h4
      refine did_val h (c := c) (x := v) ?_ hv hk
      simp [execOp, ho, hx', hrun g (cellsAt_of h3)]
    · cases hg
  · cases hg

theorem cells_rel {c : W} {x : Value} {cs : List W} (hc : cellsW c = some cs) (hx : RW m c x) : RWs m true cs x.cells.toList := by
  have one : ∀ {c : W}, RW m c x → x.oneCell' = true → RWs m true [c] x.cells.toList := by
    intro c h h1
    have : x.cells.toList = [x] := by cases x <;> first | rfl | simp [Value.oneCell'] at h1
    rw [this]
    exact ⟨⟨h, fun _ => h1⟩, trivial⟩
  cases c with
  | agg cs' => cases hc; obtain ⟨arr, rfl, h⟩ := hx; exact h
  | v y =>
    simp only [cellsW] at hc
    split at hc
    · next h1 => cases hc; have : x = y := hx; exact one hx (by rw [this]; exact h1)
    · cases hc
  | fn g caps => cases hc; obtain ⟨_, he, _⟩ := id hx; exact one hx (by rw [he]; rfl)
  | ptr b off => cases hc; obtain ⟨_, _, _, he⟩ := id hx; exact one hx (by rw [he]; rfl)
  | sl b off n cp => cases hc; obtain ⟨_, _, _, _, _, he, _⟩ := id hx; exact one hx (by rw [he]; rfl)
  | mp b => cases hc; obtain ⟨_, _, _, he⟩ := id hx; exact one hx (by rw [he]; rfl)
  | ifc t y => cases hc; obtain ⟨_, he, _⟩ := id hx; exact one hx (by rw [he]; rfl)
  | yld b => cases hc
  | top => cases hc
  | tup _ => cases hc

theorem store_d (h : RelM O w0 M0 N0 U m sz tm st a w) {t : TypeId} {p x : Operand} (ho : o.op = .store t p x) (hp : RW m (ρ p) (a.eval p)) (hx : RW m (ρ x) (a.eval x)) (hg : (opM P id ρ o).go st K) : Did P o a w O w0 M0 N0 U m sz tm id K := by
  simp only [opM, ho] at hg
  split at hg
  · next b off new n hb hc hs =>
    rw [hb] at hp
    obtain ⟨g, C, hm, hp'⟩ := hp
    have hr := cells_rel hc hx
    have hvs : (a.eval x).cells.size = new.length := by have := RWs_length hr; simpa using this.symm
    replace hg := getO hg
    obtain ⟨y, hl, hg⟩ := hg
    split at hg
    · next cs e size =>
      obtain ⟨⟨hn, hoff⟩, hk⟩ := hg
      obtain ⟨g', C', arr, h1, h2, h3, h4, h5⟩ := h.hst b _ hl
      rw [hm] at h1; cases h1
      have hlen : cs.length ≤ arr.size := by have := cells_len h4; simpa using this
      have hR := h.setRow (x1 := .cells (cs.take off ++ new ++ cs.drop (off + n)) e size) (arr' := (arr.toList.take off ++ (a.eval x).cells.toList ++ arr.toList.drop (off + n)).toArray) hl (by simp) hm h2 h3
        (fun hh => ⟨_, _, _, hm, h2, hh, by
          have e3 := RWs_splice (off := off) (n := n) h4 hr
          have e4 : (cs.take off ++ new ++ cs.drop (off + n)).length = cs.length := by
            simp only [List.length_append, List.length_take, List.length_drop]; omega
          rw [e4]
          refine Eq.mp (congrArg (RWs m true _) ?_) e3
          have hv2 : (a.eval x).cells.toList.length = n := by simp; omega
          apply List.ext_getElem?
          intro j
          rw [List.getElem?_take]
          rw [splice_get arr.toList (a.eval x).cells.toList off n hv2 (by simp; omega) j]
          rw [splice_get (List.take cs.length arr.toList) (a.eval x).cells.toList off n hv2 (by rw [List.length_take]; simp; omega) j]
          rw [List.getElem?_take]
          by_cases h1 : j < off
          · simp [h1, show j < cs.length by omega]
          · by_cases h2 : j < off + n
            · simp [h1, h2, show j < cs.length by omega]
            · simp [h1, h2], fun hz => by
          rw [← h5 hz]
          simp only [List.size_toArray, List.length_append, List.length_take, List.length_drop, Array.length_toList]
          omega⟩)
      refine ⟨.skip, undef, _, m, .top, _, ?_, .inr ⟨rfl, rfl⟩, hR.weakU fun _ e => e.1, fun _ _ e => e, trivial, hk⟩
      have := store_run (P := P) (w := w) (off := off) hs (by omega) h3 (by omega) (RWs_ones hr)
      simp [execOp, ho, hp', this]
    · cases hg
  · cases hg

theorem alloc_d (h : RelM O w0 M0 N0 U m sz tm st a w) (hU : U id) {t : TypeId} (ho : o.op = .alloc t) (hg : (opM P id ρ o).go st K) : Did P o a w O w0 M0 N0 U m sz tm id K := by
  simp only [opM, ho] at hg
  split at hg
  · next z hz =>
    obtain ⟨v, hrun, hzv, hone, _⟩ := zeroW_run w hz
    obtain ⟨hR, hm⟩ := h.new (id := id) 0 hU (o := .cells v.cells t) (x := .cells z t 0) (by simp) (by
      intro m' hm hid hh
      refine ⟨_, _, v.cells, hid, h.own_new, hh, ?_, fun e => absurd rfl e⟩
      subst hzv
      rw [List.take_of_length_le (by simp)]
      exact RWs_vals hone)
    refine ⟨_, .pointer (some ⟨w.heap.size, 0, none⟩), _, _, .ptr id 0, _, ?_, .inl rfl, hR, hm, ⟨w.heap.size, 0, by simp, rfl⟩, hg⟩
    simp [execOp, ho, Instr.alloc, hrun, newVar, newRow]
  · cases hg

theorem box_d (h : RelM O w0 M0 N0 U m sz tm st a w) (hU : U id) {t : TypeId} {x : Operand} (ho : o.op = .box t x) (hx : RW m (ρ x) (a.eval x)) (hg : (opM P id ρ o).go st K) : Did P o a w O w0 M0 N0 U m sz tm id K := by
  simp only [opM, ho] at hg
  split at hg
  · next cs hcs =>
    have hr := cells_rel hcs hx
    obtain ⟨hR, hm⟩ := h.new (id := id) 0 hU (o := .cells (a.eval x).cells t) (x := .cells cs t 0) (by simp) (by
      intro m' hm hid hh
      refine ⟨_, _, (a.eval x).cells, hid, h.own_new, hh, ?_, fun e => absurd rfl e⟩
      rw [List.take_of_length_le (by have := RWs_length hr; omega)]
      exact RWs.mono hm _ _ hr)
    refine ⟨_, .pointer (some ⟨w.heap.size, 0, none⟩), _, _, .ptr id 0, _, ?_, .inl rfl, hR, hm, ⟨w.heap.size, 0, by simp, rfl⟩, hg⟩
    simp [execOp, ho, Instr.box, newVar, newRow]
  · cases hg

theorem fill_d {place : Nat → Option (Nat × Nat)} : ∀ {l : List (Nat × W)} {vs : List (Nat × Value)} {cells : List W} {xs : Array Value} {k : List W → T},
    (fillW place cells l k).go st K → RWs m true cells xs.toList → l.length = vs.length → (∀ (i : Nat) (c : Nat × W) (x : Nat × Value), l[i]? = some c → vs[i]? = some x → c.1 = x.1 ∧ RW m c.2 x.2) →
    ∃ cs ys, Instr.fill place xs vs = some ys ∧ RWs m true cs ys.toList ∧ (k cs).go st K ∧ ys.size = xs.size
  | [], [], cells, xs, k, hg, hr, _, _ => ⟨cells, xs, rfl, hr, hg, rfl⟩
  | [], _ :: _, _, _, _, _, _, hl, _ => by simp at hl
  | _ :: _, [], _, _, _, _, _, hl, _ => by simp at hl
  | (i, c) :: l, (i', x) :: vs, cells, xs, k, hg, hr, hl, hv => by
    obtain ⟨hi, hx⟩ := hv 0 _ _ rfl rfl
    simp only at hi hx
    subst hi
    simp only [fillW] at hg
    split at hg
    · next off size cs hp hc =>
      obtain ⟨⟨h1, h2⟩, hg⟩ := hg
      have hrv := cells_rel hc hx
      have hcs : x.cells.size = size := by have := RWs_length hrv; simp at this; omega
      have hxs : cells.length = xs.size := by have := RWs_length hr; simpa using this
      have hset := foldl_set off x.cells.toList 0 xs (by simp; omega)
      simp only [Nat.add_zero, Array.length_toList, hcs] at hset
      have e : (x.cells.zipIdx.foldl (fun cs p => cs.setIfInBounds (off + p.2) p.1) xs).toList = xs.toList.take off ++ x.cells.toList ++ xs.toList.drop (off + size) := by
        rw [← hset, ← Array.foldl_toList]
        simp
      have hsize : (x.cells.zipIdx.foldl (fun cs p => cs.setIfInBounds (off + p.2) p.1) xs).size = xs.size := by
        rw [← Array.length_toList, e]
        simp only [List.length_append, List.length_take, List.length_drop, Array.length_toList]
        omega
      obtain ⟨cs', ys, e1, e2, e3, e4⟩ := fill_d (xs := x.cells.zipIdx.foldl (fun cs p => cs.setIfInBounds (off + p.2) p.1) xs) hg (by
        rw [e]
        exact RWs_splice hr hrv) (by simpa using hl) (fun j c x hc hx => hv (j + 1) c x (by simpa using hc) (by simpa using hx))
      refine ⟨cs', ys, ?_, e2, e3, by rw [e4, hsize]⟩
      simp only [Instr.fill, hp, hcs]
      rw [if_neg (by simp; omega)]
      exact e1
    · cases hg

theorem parts_d {l : List (Nat × Operand)} (hρ : ∀ p ∈ l, RW m (ρ p.2) (a.eval p.2)) : (l.map fun (i, x) => (i, ρ x)).length = (l.map fun (i, x) => (i, a.eval x)).length ∧
    ∀ (i : Nat) (c : Nat × W) (x : Nat × Value), (l.map fun (i, x) => (i, ρ x))[i]? = some c → (l.map fun (i, x) => (i, a.eval x))[i]? = some x → c.1 = x.1 ∧ RW m c.2 x.2 := by
  refine ⟨by simp, fun i c x hc hx => ?_⟩
  rw [List.getElem?_map] at hc hx
  cases he : l[i]? with
  | none => simp [he] at hc
  | some p =>
    simp only [he, Option.map_some, Option.some.injEq] at hc hx
    subst hc hx
    exact ⟨rfl, hρ p (List.mem_of_getElem? he)⟩

theorem build_d (h : RelM O w0 M0 N0 U m sz tm st a w) {t : TypeId} {parts : Array (Nat × Operand)} (ho : o.op = .build t parts) (hρ : ∀ p ∈ parts.toList, RW m (ρ p.2) (a.eval p.2)) (hg : (opM P id ρ o).go st K) : Did P o a w O w0 M0 N0 U m sz tm id K := by
  simp only [opM, ho] at hg
  split at hg
  · next z pl hz hpl =>
    obtain ⟨v, hrun, hzv, hone, it, hit, hitz, hsz⟩ := zeroW_run w hz
    subst hzv
    obtain ⟨hl, hv⟩ := parts_d hρ
    obtain ⟨cs, ys, hf, hr, hk, _⟩ := fill_d hg (RWs_vals hone) hl hv
    have hb : P.built t (parts.toList.map fun (i, x) => (i, a.eval x)) = some ys := by
      simp only [placesOf] at hpl
      unfold Program.built
      simp only [hit]
      split at hpl
      · next fs hu =>
        split at hpl
        · next l hm =>
          cases hpl
          simp only [hu, hitz, hm]
          exact hf
        · cases hpl
      · next n e hu =>
        split at hpl
        · next ie hie =>
          cases hpl
          simp only [hu, hitz, hie]
          exact hf
        · cases hpl
      · cases hpl
    refine did_val h (c := .agg cs) (x := .agg ys) ?_ ⟨ys, rfl, hr⟩ hk
    have := run_build (P := P) w t (parts.map fun (i, x) => (i, a.eval x)) ys (by simpa using hb)
    simp [execOp, ho, this]
  · cases hg

theorem rep_get {z : List Value} {size : Nat} (hs : z.length = size) (hpos : 0 < size) : ∀ (n : Nat), (List.replicate n (z.map W.v)).flatten.length = n * size ∧ (List.replicate n z).flatten.length = n * size ∧
    (∀ i (hi : i < n * size), (List.replicate n z).flatten[i]? = some (z[i % size]'(by rw [hs]; exact Nat.mod_lt _ hpos))) ∧ (List.replicate n (z.map W.v)).flatten = ((List.replicate n z).flatten).map W.v
  | 0 => by simp
  | n + 1 => by
    obtain ⟨h1, h2, h3, h4⟩ := rep_get hs hpos n
    simp only [List.replicate_succ, List.flatten_cons, List.length_append, List.length_map, h1, h2, h4, List.map_append]
    refine ⟨by rw [Nat.add_mul]; omega, by rw [Nat.add_mul]; omega, fun i hi => ?_, trivial⟩
    by_cases hlt : i < z.length
    · rw [List.getElem?_append_left hlt, List.getElem?_eq_getElem hlt]
      simp [Nat.mod_eq_of_lt (hs ▸ hlt)]
    · rw [List.getElem?_append_right (by omega), show i - z.length = i - size from by rw [hs], h3 (i - size) (by rw [Nat.add_mul] at hi; omega)]
      congr 2
      exact (Nat.mod_eq_sub_mod (by omega)).symm

/-- The cells of a new row: all of them zero. -/
theorem rep_RWs {v : Value} {size n : Nat} (hone : ∀ x ∈ v.cells.toList, x.oneCell' = true) (hs : v.cells.size = size) (hpos : 0 < size) :
    RWs m true (List.replicate n (v.cells.toList.map W.v)).flatten ((Array.range (n * size)).map (fun i => v.cells[i % v.cells.size]!)).toList := by
  obtain ⟨h1, h2, h3, h4⟩ := rep_get (z := v.cells.toList) (size := size) (by simp [hs]) hpos n
  rw [h4]
  have e : ((Array.range (n * size)).map (fun i => v.cells[i % v.cells.size]!)).toList = (List.replicate n v.cells.toList).flatten := by
    apply List.ext_getElem?
    intro i
    by_cases hi : i < n * size
    · rw [h3 i hi]
      have him : i % size < v.cells.size := by rw [hs]; exact Nat.mod_lt _ hpos
      simp [hi, hs]
      exact getElem!_pos v.cells (i % size) him
    · rw [List.getElem?_eq_none (by simp; omega), List.getElem?_eq_none (by rw [h2]; omega)]
  rw [e]
  refine RWs_vals fun x hx => ?_
  obtain ⟨l, hl, hx⟩ := List.mem_flatten.1 hx
  obtain ⟨_, rfl⟩ := List.mem_replicate.1 hl
  exact hone x hx

/-- A new row. -/
theorem row_d (h : RelM O w0 M0 N0 U m sz tm st a w) (hU : U id) {e : TypeId} {size n : Nat} {cs : List W} {arr : Array Value} (hc : RWs m true cs (arr.toList.take cs.length)) (hl : arr.size = n * size) :
    RelM O w0 M0 N0 (fun b => U b ∧ b ≠ id) (fun b => if b = id then some (w.heap.size, n) else m b) sz tm ((id, .cells cs e size) :: st) a (w.alloc (.cells arr e)) ∧
    (∀ b y, m b = some y → (fun b => if b = id then some (w.heap.size, n) else m b) b = some y) :=
  h.new (id := id) n hU (o := .cells arr e) (x := .cells cs e size) (by simp) (by
    intro m' hm hid hh
    exact ⟨_, _, arr, hid, h.own_new, hh, RWs.mono hm _ _ hc, fun _ => hl⟩)

theorem buildSlice_d (h : RelM O w0 M0 N0 U m sz tm st a w) (hU : U id) {t : TypeId} {n : Nat} {parts : Array (Nat × Operand)} (ho : o.op = .buildSlice t n parts) (hρ : ∀ p ∈ parts.toList, RW m (ρ p.2) (a.eval p.2)) (hg : (opM P id ρ o).go st K) : Did P o a w O w0 M0 N0 U m sz tm id K := by
  simp only [opM, ho] at hg
  split at hg
  · next e he =>
    have hu := elem_u he
    split at hg
    · next size z hs hz =>
      obtain ⟨⟨hpos, h24⟩, hg⟩ := hg
      obtain ⟨v, hrun, hzv, hone, it, hit, hitz, hvsz⟩ := zeroW_run w hz
      have hsize : v.cells.size = size := by simp [szOf, hit] at hs; omega
      subst hzv
      obtain ⟨hl, hv⟩ := parts_d hρ
      obtain ⟨cs, ys, hf, hr, hk, hys⟩ := fill_d hg (rep_RWs (n := n) hone hsize hpos) hl hv
      have hys' : ys.size = n * size := by rw [hys]; simp
      have hnm : n ≤ maxLen := by
        have : n ≤ n * size := Nat.le_mul_of_pos_right n hpos
        unfold maxLen; omega
      obtain ⟨hR, hm⟩ := row_d h hU (e := e) (size := size) (n := n) (cs := cs) (arr := ys) (by rw [List.take_of_length_le (by have := RWs_length hr; omega)]; exact hr) hys'
      refine ⟨_, .slice (some ⟨w.heap.size, 0, none⟩) n n, w.alloc (.cells ys e), _, .sl id 0 n (some n), _, ?_, .inl rfl, hR, hm, ⟨w.heap.size, n, 0, n, by simp, rfl, .inl rfl, Nat.le_refl _, hnm, by simp, by simp⟩, hk⟩
      have hf' : Instr.fill (fun i => some (i * size, size)) (Array.map (fun i => v.cells[i % v.cells.size]!) (Array.range (n * size))) (parts.toList.map fun (i, x) => (i, a.eval x)) = some ys := hf
      by_cases h0 : n * size = 0
      · rw [h0] at hf'
        simp only [execOp, ho, Instr.buildSlice, Sem.run_bind, run_underlying hu, Result.andThen_ok, sz_run hs, Sem.run_ite, h0, if_true, Sem.run_pure]
        simp only [Array.toList_map]
        simp only [show ¬ ((0 : Nat) > 2 ^ 24) by decide, if_false, Result.andThen_ok, Sem.run_pure]
        have hz : Array.map (fun i => (#[] : Array Value)[i % (#[] : Array Value).size]!) (Array.range 0) = Array.map (fun i => v.cells[i % v.cells.size]!) (Array.range 0) := by simp
        rw [hz, hf']
        simp [newRow]
      · have h24' : ¬ (n * size > 2 ^ 24) := by omega
        simp only [execOp, ho, Instr.buildSlice, Sem.run_bind, run_underlying hu, Result.andThen_ok, sz_run hs, Sem.run_ite, h0, h24', if_false, Sem.run_pure, hrun]
        simp only [Array.toList_map]
        rw [hf']
        simp [newRow]
    · cases hg
  · cases hg

theorem makeSlice_d (h : RelM O w0 M0 N0 U m sz tm st a w) (hU : U id) {t : TypeId} {ln cp : Operand} (ho : o.op = .makeSlice t ln cp) (hln : RW m (ρ ln) (a.eval ln)) (hcp : RW m (ρ cp) (a.eval cp)) (hg : (opM P id ρ o).go st K) : Did P o a w O w0 M0 N0 U m sz tm id K := by
  simp only [opM, ho] at hg
  split at hg
  · next i j e hi hj he =>
    have hu := elem_u he
    rw [hi] at hln; rw [hj] at hcp
    have hln' : a.eval ln = .int .i64 (i : Int) := hln
    have hcp' : a.eval cp = .int .i64 (j : Int) := hcp
    split at hg
    · next size bytes z hs hb hz =>
      obtain ⟨⟨hij, hbig, hpos, hmax⟩, hg⟩ := hg
      obtain ⟨v, hrun, hzv, hone, it, hit, hitz, hvsz⟩ := zeroW_run w hz
      have hsize : v.cells.size = size := by simp [szOf, hit] at hs; omega
      have hbytes : it.bytes = bytes := by simpa [bytesOf, hit] using hb
      subst hzv
      have hrw := rep_RWs (m := m) (n := j) hone hsize hpos
      obtain ⟨hR, hm⟩ := row_d h hU (e := e) (size := size) (n := j) (cs := (List.replicate j (v.cells.toList.map W.v)).flatten) (arr := (Array.range (j * size)).map (fun i => v.cells[i % v.cells.size]!)) (by rw [List.take_of_length_le (by have := RWs_length hrw; omega)]; exact hrw) (by simp)
      refine ⟨_, .slice (some ⟨w.heap.size, 0, none⟩) i j, _, _, .sl id 0 i (some j), _, ?_, .inl rfl, hR, hm, ⟨w.heap.size, j, 0, j, by simp, rfl, .inl rfl, hij, hmax, by simp, by simp⟩, hg⟩
      have hbig' : (it.bytes : Int) * j ≤ 281474976710656 := by
        have h := Int.ofNat_le.2 hbig
        rw [Int.natCast_mul] at h
        rw [hbytes, Int.mul_comm]; exact h
      have hsmall : j ≤ 9223372036854775807 := by unfold maxLen at hmax; omega
      have := run_make (P := P) w t e it v hu hit hitz .i64 .i64 (i : Int) (j : Int) (by omega) (by omega) hbig' (by omega)
      have hits : it.size = size := by omega
      simp only [Int.toNat_natCast, hits] at this
      simp only [execOp, ho, hln', hcp', Sem.run_bind, this]
      rfl
    · cases hg
  · cases hg
end
end
end Go.Ev.Mi
/- The mirror machine: the operations are done as the model does them: lists, maps, all of them. -/
set_option linter.unusedVariables false
set_option linter.unusedSimpArgs false
namespace Go.Ev.Mi
open Go.RowKit

section
variable {P : Program}
variable {O : Nat → Prop} {w0 : World} {M0 : MM} {N0 : Nat} {U : Nat → Prop} {m : MM} {sz : Nat} {tm : TW} {st : SB} {a : Act} {w : World} {id : Nat} {K : W → SB → Prop} {o : Oper} {ρ : Operand → W}

theorem src_d (h : RelM O w0 M0 N0 U m sz tm st a w) {size : Nat} {c : W} {x : Value} (hx : RW m c x) {k : List W → Nat → T} (hg : (srcW size c k).go st K) :
    ∃ new n ad cp xs, (k new n).go st K ∧ x = .slice ad n cp ∧ RWs m true new xs ∧ (ad = none → n = 0) ∧ ∀ q, ad = some q → ∀ (j : Nat) (u : Value), xs[j]? = some u → w.cell? (q.add j) = some u := by
  unfold srcW at hg
  split at hg
  · next b off n cap =>
    obtain ⟨g, C, o', c', hm, rfl, ho, hn, hc, _, _⟩ := hx
    replace hg := getO hg
    obtain ⟨y, hl, hg⟩ := hg
    split at hg
    · next cs e s' =>
      obtain ⟨hle, hg⟩ := hg
      obtain ⟨g', C', arr, h1, h2, h3, h4, h5⟩ := h.hst b _ hl
      rw [hm] at h1; cases h1
      refine ⟨_, n, _, c', (arr.toList.drop off).take (n * size), hg, rfl, cells_sub h4 hle, fun e => (by cases e), fun q hq j u hj => ?_⟩
      cases hq
      rw [List.getElem?_take] at hj
      split at hj
      · next hjn =>
        have hn0 : n ≠ 0 := by rintro rfl; simp at hjn
        have ho' : o' = off := ho.resolve_right (by omega)
        rw [Addr.add_lit, ho']
        refine cell?_at ?_
        rw [cellsAt_of h3, ← List.getElem?_drop]
        exact hj
      · cases hj
    · cases hg
  · next kk cp =>
    have hx' : x = .slice none 0 cp := hx
    exact ⟨[], 0, none, cp, [], hg, hx', trivial, fun _ => rfl, fun q hq => (by cases hq)⟩
  · cases hg

theorem run_append_at {t ty e : TypeId} {i : TypeInfo} (ht : P.underlying t = some (.slice e)) (hi : P.info? e = some i)
    (g off sLen sCap : Nat) (cur : Array Value) (hg : w.heap[g]? = some (.cells cur e (0, 0)))
    (q : Addr) (k c : Nat) (news : List Value) (hl : news.length = k * i.size) (hnews : ∀ j u, news[j]? = some u → w.cell? (q.add j) = some u) (h1 : ∀ u ∈ news, u.oneCell' = true)
    (hroom : sLen + k ≤ sCap) (hfit : off + sLen * i.size + news.length ≤ cur.size) :
    (Builtin.append_ #[t, t] ty #[.slice (some ⟨g, off, none⟩) sLen sCap, .slice (some q) k c]).run P w =
      .ok (.slice (some ⟨g, off, none⟩) (sLen + k) sCap) (w.setRow g (cur.toList.take (off + sLen * i.size) ++ news ++ cur.toList.drop (off + sLen * i.size + news.length)).toArray) := by
  have hf := run_firstCells_some (P := P) w i.size k q k c news hl hnews
  have hst := run_storeCells_at P g (off + sLen * i.size) e news 0 cur w hg (by simpa using hfit) h1
  simp only [Nat.add_zero] at hst
  simp [Builtin.append_, run_underlying ht, sizeOf, typeInfo, hi, Builtin.lenOf, hroom, hf, Addr.add_lit, hst]

theorem run_append_zero {t ty e : TypeId} {i : TypeInfo} (ht : P.underlying t = some (.slice e)) (hi : P.info? e = some i) (base ad : Option Addr) (sLen sCap cp : Nat) (hn : sLen ≤ sCap) :
    (Builtin.append_ #[t, t] ty #[.slice base sLen sCap, .slice ad 0 cp]).run P w = .ok (.slice base sLen sCap) w := by
  have hf : (Builtin.firstCells i.size 0 (.slice ad 0 cp)).run P w = .ok #[] w := by
    cases ad <;> simp [Builtin.firstCells, loadCells, loadCellsFrom]
  cases base <;> simp [Builtin.append_, run_underlying ht, sizeOf, typeInfo, hi, Builtin.lenOf, hn, hf, storeCells]

theorem splice_RWs {cs new : List W} {cur xs : List Value} {off n : Nat} (h : RWs m true cs (cur.take cs.length)) (k : RWs m true new xs) (hn : new.length = n) (ho : off + n ≤ cs.length) :
    RWs m true (cs.take off ++ new ++ cs.drop (off + n)) ((cur.take off ++ xs ++ cur.drop (off + n)).take (cs.take off ++ new ++ cs.drop (off + n)).length) := by
  have hlen := cells_len h
  have hxl : xs.length = n := by rw [← hn]; exact (RWs_length k).symm
  have e3 := RWs_splice (off := off) (n := n) h k
  have e4 : (cs.take off ++ new ++ cs.drop (off + n)).length = cs.length := by
    simp only [List.length_append, List.length_take, List.length_drop]; omega
  rw [e4]
  refine Eq.mp (congrArg (RWs m true _) ?_) e3
  apply List.ext_getElem?
  intro j
  rw [List.getElem?_take]
  rw [splice_get cur xs off n hxl (by omega) j]
  rw [splice_get (List.take cs.length cur) xs off n hxl (by rw [List.length_take]; omega) j]
  rw [List.getElem?_take]
  by_cases h1 : j < off
  · simp [h1, show j < cs.length by omega]
  · by_cases h2 : j < off + n
    · simp [h1, h2, show j < cs.length by omega]
    · simp [h1, h2]

theorem append_d (h : RelM O w0 M0 N0 U m sz tm st a w) (hU : U id) {s x : Operand} {t u : TypeId} (ho : o.op = .call { callee := .builtin .append, args := #[s, x], argTypes := #[t, u] }) (hs : RW m (ρ s) (a.eval s)) (hx : RW m (ρ x) (a.eval x))
    (hg : (appendW P id t u (ρ s) (ρ x)).go st K) : Did P o a w O w0 M0 N0 U m sz tm id K := by
  unfold appendW at hg
  obtain ⟨htu, hg⟩ := hg
  subst htu
  split at hg
  · cases hg
  · next e he =>
    have hu := elem_u he
    split at hg
    · next size bytes z hsz hby hz =>
      obtain ⟨v, hrun, hzv, hone, it, hit, hitz, hvsz⟩ := zeroW_run w hz
      have hits : it.size = size := by simpa [szOf, hit] using hsz
      have hitb : it.bytes = bytes := by simpa [bytesOf, hit] using hby
      obtain ⟨new, k, ad, cp, xs, hg, hx', hxs, hnone, hcell⟩ := src_d h hx hg
      obtain ⟨⟨hkl, hpos⟩, hg⟩ := hg
      have hxl : xs.length = k * size := by rw [← RWs_length hxs]; exact hkl
      have hex : ∀ {y : Value} {w' : World}, (Builtin.append_ #[t, t] o.type #[a.eval s, a.eval x]).run P w = .ok y w' → (execOp a.eval o).run P w = .ok (.value y) w' := by
        intro y w' hr
        rw [run_builtin ho]
        simp [builtin, hr]
      split at hg
      · -- nothing is appended
        split at hg
        · next b off n c hb =>
          rw [hb] at hs
          have hs0 := hs
          obtain ⟨g, C, o', c', hm, hs', h1, h2, h3, h4, h5⟩ := hs
          exact did_val h (hex (by rw [hs', hx']; exact run_append_zero hu hit _ _ _ _ _ h2)) (by rw [← hs']; exact hs0) hg
        · next hb =>
          rw [hb] at hs
          have hs' : a.eval s = .slice none 0 0 := hs
          exact did_val h (c := .v (.slice none 0 0)) (hex (by rw [hs', hx']; exact run_append_zero hu hit _ _ _ _ _ (Nat.le_refl _))) rfl hg
        · cases hg
      · next k' =>
        obtain ⟨q, rfl⟩ : ∃ q, ad = some q := by
          cases ad with
          | none => have := hnone rfl; omega
          | some q => exact ⟨q, rfl⟩
        replace hcell := hcell q rfl
        generalize hk : Nat.succ k' = k at *
        have hk0 : 0 < k := by omega
        split at hg
        · next hb =>
          rw [hb] at hs
          have hs' : a.eval s = .slice none 0 0 := hs
          obtain ⟨⟨hkm, hkb⟩, hg⟩ := hg
          have hr := run_append_nil (P := P) w t o.type e it v hu hit hitz q k cp xs (by rw [hits]; exact hxl) hcell hk0 (by unfold maxLen at hkm; omega) (by rw [hitb]; omega)
          have hge := grownCap_ge w k 0 e
          have hcm := grownCap_le_maxLen w k 0 e hkm
          obtain ⟨hR, hm⟩ := row_d h.drew hU (id := id) (e := e) (size := size) (n := grownCap w k 0 e) (cs := new) (arr := xs.toArray ++ Builtin.zeroCells v.cells (grownCap w k 0 e - k)) (by
            have : new.length = xs.length := RWs_length hxs
            rw [this]
            simpa using hxs) (by
            have h1 : (Builtin.zeroCells v.cells (grownCap w k 0 e - k)).size = (grownCap w k 0 e - k) * size := by rw [size_zeroCells, hvsz, hits]
            rw [Array.size_append, h1, List.size_toArray, hxl, ← Nat.add_mul]
            congr 1; omega)
          exact ⟨_, _, _, _, .sl id 0 k none, _, hex (by rw [hs', hx']; exact hr), .inl rfl, hR, hm, ⟨w.heap.size, _, 0, grownCap w k 0 e, by simp, rfl, .inl rfl, hge, hcm, fun _ e => (by cases e), fun _ _ => rfl⟩, hg⟩
        · next b off n c hb =>
          rw [hb] at hs
          obtain ⟨g, C, o', c', hm, hs', hoo, hnc, hcm, hce, _⟩ := hs
          obtain rfl := hce c rfl
          replace hg := getO hg
          obtain ⟨y, hl, hg⟩ := hg
          split at hg
          · next cs e' size' =>
            obtain ⟨g', C', arr, h1, h2, h3, h4, h5⟩ := h.hst b _ hl
            rw [hm] at h1; cases h1
            have hlen : cs.length ≤ arr.size := by have := cells_len h4; simpa using this
            split at hg
            · next hroom =>
              have hroom : n + k ≤ c' := Nat.le_of_ble_eq_true hroom
              obtain ⟨⟨rfl, hfit⟩, hg⟩ := hg
              have ho' : o' = off := hoo.resolve_right (by omega)
              subst ho'
              have hfit2 : o' + n * size + k * size ≤ cs.length := by rw [Nat.add_mul] at hfit; omega
              have hr := run_append_at (P := P) (ty := o.type) hu hit g o' n c' arr h3 q k cp xs (by rw [hits]; exact hxl) hcell (RWs_ones hxs) hroom (by rw [hits, hxl]; omega)
              rw [hits, hxl] at hr
              have hR := h.setRow (x1 := .cells (cs.take (o' + n * size) ++ new ++ cs.drop (o' + n * size + k * size)) e' size') (arr' := (arr.toList.take (o' + n * size) ++ xs ++ arr.toList.drop (o' + n * size + k * size)).toArray) hl (by simp) hm h2 h3
                (fun hh => ⟨_, _, _, hm, h2, hh, splice_RWs h4 hxs hkl hfit2, fun hz => by
                  rw [← h5 hz]
                  simp only [List.size_toArray, List.length_append, List.length_take, List.length_drop, Array.length_toList]
                  omega⟩)
              exact ⟨_, _, _, m, .sl b o' (n + k) (some c'), _, hex (by rw [hs', hx']; exact hr), .inl rfl, hR.weakU fun _ e => e.1, fun _ _ e => e, ⟨g, C, o', c', hm, rfl, .inl rfl, hroom, hcm, fun _ e => (by cases e; rfl), fun e => by cases e⟩, hg⟩
            · next hroom =>
              have hroom : c' < n + k := Nat.lt_of_not_le fun e => by rw [Nat.ble_eq_true_of_le e] at hroom; cases hroom
              obtain ⟨⟨hfit, hnk, hnb⟩, hg⟩ := hg
              have hlo : ((arr.toList.drop off).take (n * size)).length = n * size := by
                rw [List.length_take, List.length_drop, Array.length_toList]; omega
              have holds : ∀ (j : Nat) (u : Value), ((arr.toList.drop off).take (n * size))[j]? = some u → w.cell? ((⟨g, o', none⟩ : Addr).add j) = some u := by
                intro j u hj
                rw [List.getElem?_take] at hj
                split at hj
                · next hjn =>
                  have hn0 : n ≠ 0 := by rintro rfl; simp at hjn
                  rw [Addr.add_lit, hoo.resolve_right (by omega)]
                  refine cell?_at ?_
                  rw [cellsAt_of h3, ← List.getElem?_drop]
                  exact hj
                · cases hj
              have hr := run_append_grow (P := P) w t o.type e it v hu hit hitz ⟨g, o', none⟩ n c' ((arr.toList.drop off).take (n * size)) (by rw [hits]; exact hlo) holds q k cp xs (by rw [hits]; exact hxl) hcell (by omega) (by unfold maxLen at hnk; omega)
                (growslice_fits (by omega) (by rw [hitb]; exact hnb))
              have hge := grownCap_ge w (n + k) c' e
              have hcm' := grownCap_le_maxLen w (n + k) c' e hnk
              obtain ⟨hR, hmm⟩ := row_d h.drew hU (id := id) (e := e) (size := size) (n := grownCap w (n + k) c' e) (cs := (cs.drop off).take (n * size) ++ new) (arr := ((arr.toList.drop off).take (n * size)).toArray ++ xs.toArray ++ Builtin.zeroCells v.cells (grownCap w (n + k) c' e - (n + k))) (by
                have q1 := RWs_append (cells_sub h4 hfit) hxs
                have e5 : ((cs.drop off).take (n * size) ++ new).length = ((arr.toList.drop off).take (n * size) ++ xs).length := RWs_length q1
                rw [e5]
                have e6 : (((arr.toList.drop off).take (n * size)).toArray ++ xs.toArray ++ Builtin.zeroCells v.cells (grownCap w (n + k) c' e - (n + k))).toList = ((arr.toList.drop off).take (n * size) ++ xs) ++ (Builtin.zeroCells v.cells (grownCap w (n + k) c' e - (n + k))).toList := by simp
                rw [e6, List.take_left' rfl]
                exact q1) (by
                have h1 : (Builtin.zeroCells v.cells (grownCap w (n + k) c' e - (n + k))).size = (grownCap w (n + k) c' e - (n + k)) * size := by rw [size_zeroCells, hvsz, hits]
                rw [Array.size_append, Array.size_append, h1, List.size_toArray, List.size_toArray, hlo, hxl, ← Nat.add_mul, ← Nat.add_mul]
                congr 1; omega)
              exact ⟨_, _, _, _, .sl id 0 (n + k) none, _, hex (by rw [hs', hx']; exact hr), .inl rfl, hR, hmm, ⟨w.heap.size, _, 0, grownCap w (n + k) c' e, by simp, rfl, .inl rfl, hge, hcm', fun _ e => (by cases e), fun _ _ => rfl⟩, hg⟩
          · cases hg
        · next b n hb =>
          rw [hb] at hs
          obtain ⟨g, C, o', c', hm, hs', hoo, hnc, hcm, _, hce⟩ := hs
          obtain rfl := hce rfl rfl
          replace hg := getO hg
          obtain ⟨y, hl, hg⟩ := hg
          split at hg
          · next cs e' size' =>
            split at hg
            · next hfits =>
              have hfits : (n + k) * size ≤ cs.length := Nat.le_of_ble_eq_true hfits
              obtain ⟨⟨rfl, rfl⟩, hg1⟩ := hg
              obtain ⟨g', C', arr, h1, h2, h3, h4, h5⟩ := h.hst b _ hl
              rw [hm] at h1; cases h1
              have hz := h5 (by omega)
              have hlen : cs.length ≤ arr.size := by have := cells_len h4; simpa using this
              have hroom : n + k ≤ c' := Nat.le_of_mul_le_mul_right (Nat.le_trans hfits (Nat.le_trans hlen (Nat.le_of_eq hz))) (by omega)
              obtain rfl : o' = 0 := hoo.resolve_right (by omega)
              have hfit2 : 0 + n * size' + k * size' ≤ cs.length := by rw [Nat.add_mul] at hfits; omega
              have hr := run_append_at (P := P) (ty := o.type) hu hit g 0 n c' arr h3 q k cp xs (by rw [hits]; exact hxl) hcell (RWs_ones hxs) hroom (by rw [hits, hxl]; omega)
              rw [hits, hxl] at hr
              have hR := h.setRow (x1 := .cells (cs.take (0 + n * size') ++ new ++ cs.drop (0 + n * size' + k * size')) e' size') (arr' := (arr.toList.take (0 + n * size') ++ xs ++ arr.toList.drop (0 + n * size' + k * size')).toArray) hl (by simp) hm h2 h3
                (fun hh => ⟨_, _, _, hm, h2, hh, splice_RWs h4 hxs hkl hfit2, fun hz => by
                  rw [← h5 hz]
                  simp only [List.size_toArray, List.length_append, List.length_take, List.length_drop, Array.length_toList]
                  omega⟩)
              exact ⟨_, _, _, m, .sl b 0 (n + k) none, _, hex (by rw [hs', hx']; exact hr), .inl rfl, hR.weakU fun _ e => e.1, fun _ _ e => e, ⟨g, c', 0, c', hm, rfl, .inl rfl, hroom, hcm, (fun _ e => (by cases e)), fun _ _ => rfl⟩, hg1⟩
            · next hfits =>
              obtain ⟨⟨rfl, rfl, hnl, hnk, hnb⟩, hg⟩ := hg
              obtain ⟨g', C', arr, h1, h2, h3, h4, h5⟩ := h.hst b _ hl
              rw [hm] at h1; cases h1
              have h5 := h5 (by omega)
              have hlen : cs.length ≤ arr.size := by have := cells_len h4; simpa using this
              by_cases hroom : n + k ≤ c'
              · have ho' : o' = 0 := hoo.resolve_right (by omega)
                subst ho'
                have hcs : (n + k) * size' ≤ c' * size' := Nat.mul_le_mul_right _ hroom
                have hr := run_append_at (P := P) (ty := o.type) hu hit g 0 n c' arr h3 q k cp xs (by rw [hits]; exact hxl) hcell (RWs_ones hxs) hroom (by rw [hits, hxl, h5]; rw [Nat.add_mul] at hcs; omega)
                rw [hits, hxl, Nat.zero_add] at hr
                have hlen2 : n * size' + k * size' ≤ arr.toList.length := by rw [Array.length_toList, h5]; rw [Nat.add_mul] at hcs; omega
                have hR0 := h.setRow (x1 := .cells (cs ++ new) e' size') (arr' := (arr.toList.take (n * size') ++ xs ++ arr.toList.drop (n * size' + k * size')).toArray) hl (by simp) hm h2 h3
                  (fun hh => ⟨_, _, _, hm, h2, hh, by
                    rw [← hnl] at h4
                    have e3 := RWs_append h4 hxs
                    have e5 : (cs ++ new).length = n * size' + xs.length := by rw [List.length_append, ← hnl, RWs_length hxs]
                    rw [e5]
                    refine Eq.mp (congrArg (RWs m true _) ?_) e3
                    have e4 : (arr.toList.take (n * size') ++ xs).length = n * size' + xs.length := by
                      rw [List.length_append, List.length_take]
                      omega
                    exact (List.take_left' e4).symm, fun _ => by
                    rw [← h5]
                    simp only [List.size_toArray, List.length_append, List.length_take, List.length_drop, Array.length_toList] at hlen2 ⊢
                    omega⟩)
                obtain ⟨hR, hmm⟩ := hR0.rename (id := id) (x1 := .cells (cs ++ new) e' size') hU (by rw [look_cons, if_pos rfl]) (by simp) hm (by
                  intro m' hm' hid
                  obtain ⟨g2, C2, cur2, q1, q2, q3, q4, q5⟩ := hR0.hst b _ (by rw [look_cons, if_pos rfl])
                  rw [hm] at q1; cases q1
                  exact ⟨_, _, cur2, hid, q2, q3, RWs.mono hm' _ _ q4, q5⟩)
                have hR2 := hR.congr (st' := (id, .cells (cs ++ new) e' size') :: (b, .dead) :: st) (by
                  intro j
                  simp only [look_cons]
                  by_cases e1 : id = j
                  · simp [e1]
                  · by_cases e2 : b = j <;> simp [e1, e2])
                exact ⟨_, _, _, _, .sl id 0 (n + k) none, _, hex (by rw [hs', hx']; exact hr), .inl rfl, hR2, hmm, ⟨g, c', 0, c', by simp, rfl, .inl rfl, hroom, hcm, fun _ e => (by cases e), fun _ _ => rfl⟩, hg⟩
              · have hlo : (arr.toList.take (n * size')).length = n * size' := by
                  rw [List.length_take, Array.length_toList]; omega
                have holds : ∀ (j : Nat) (u : Value), (arr.toList.take (n * size'))[j]? = some u → w.cell? ((⟨g, o', none⟩ : Addr).add j) = some u := by
                  intro j u hj
                  rw [List.getElem?_take] at hj
                  split at hj
                  · next hjn =>
                    have hn0 : n ≠ 0 := by rintro rfl; simp at hjn
                    rw [Addr.add_lit, hoo.resolve_right (by omega), Nat.zero_add]
                    refine cell?_at ?_
                    rw [cellsAt_of h3]
                    exact hj
                  · cases hj
                have hr := run_append_grow (P := P) w t o.type e' it v hu hit hitz ⟨g, o', none⟩ n c' (arr.toList.take (n * size')) (by rw [hits]; exact hlo) holds q k cp xs (by rw [hits]; exact hxl) hcell (by omega) (by unfold maxLen at hnk; omega)
                  (growslice_fits (by omega) (by rw [hitb]; exact hnb))
                have hge := grownCap_ge w (n + k) c' e'
                have hcm' := grownCap_le_maxLen w (n + k) c' e' hnk
                obtain ⟨hR, hmm⟩ := row_d (h.drew.kill hl) hU (id := id) (e := e') (size := size') (n := grownCap w (n + k) c' e') (cs := cs ++ new) (arr := (arr.toList.take (n * size')).toArray ++ xs.toArray ++ Builtin.zeroCells v.cells (grownCap w (n + k) c' e' - (n + k))) (by
                  rw [← hnl] at h4
                  have q1 := RWs_append h4 hxs
                  have e5 : (cs ++ new).length = (arr.toList.take (n * size') ++ xs).length := RWs_length q1
                  rw [e5]
                  have e6 : ((arr.toList.take (n * size')).toArray ++ xs.toArray ++ Builtin.zeroCells v.cells (grownCap w (n + k) c' e' - (n + k))).toList = (arr.toList.take (n * size') ++ xs) ++ (Builtin.zeroCells v.cells (grownCap w (n + k) c' e' - (n + k))).toList := by simp
                  rw [e6, List.take_left' rfl]
                  exact q1) (by
                  have h1 : (Builtin.zeroCells v.cells (grownCap w (n + k) c' e' - (n + k))).size = (grownCap w (n + k) c' e' - (n + k)) * size' := by rw [size_zeroCells, hvsz, hits]
                  rw [Array.size_append, Array.size_append, h1, List.size_toArray, List.size_toArray, hlo, hxl, ← Nat.add_mul, ← Nat.add_mul]
                  congr 1; omega)
                exact ⟨_, _, _, _, .sl id 0 (n + k) none, _, hex (by rw [hs', hx']; exact hr), .inl rfl, hR, hmm, ⟨w.heap.size, _, 0, grownCap w (n + k) c' e', by simp, rfl, .inl rfl, hge, hcm', fun _ e => (by cases e), fun _ _ => rfl⟩, hg⟩
          · cases hg
        · cases hg
    · cases hg

theorem copy_d (h : RelM O w0 M0 N0 U m sz tm st a w) {s x : Operand} {t u : TypeId} (ho : o.op = .call { callee := .builtin .copy, args := #[s, x], argTypes := #[t, u] }) (hs : RW m (ρ s) (a.eval s)) (hx : RW m (ρ x) (a.eval x))
    (hg : (copyW P t (ρ s) (ρ x)).go st K) : Did P o a w O w0 M0 N0 U m sz tm id K := by
  unfold copyW at hg
  split at hg
  · cases hg
  · next e he =>
    have hu := elem_u he
    split at hg
    · next b off n cap hsz hb =>
      rw [hb] at hs
      have hsz1 : (P.info? e).map (·.size) = some 1 := by
        cases hq : P.info? e with
        | none => simp [szOf, hq] at hsz
        | some it => simpa [szOf, hq] using hsz
      obtain ⟨g, C, o', c', hm, hs', hoo, hnc, hcm, _, _⟩ := hs
      obtain ⟨new, k, ad, cp, xs, hg, hx', hxs, hnone, hcell⟩ := src_d h hx hg
      have hex : ∀ {y : Value} {w' : World}, (Builtin.copy_ #[t, u] o.type #[a.eval s, a.eval x]).run P w = .ok y w' → (execOp a.eval o).run P w = .ok (.value y) w' := by
        intro y w' hr
        rw [run_builtin ho]
        simp [builtin, hr]
      split at hg
      · next hmin =>
        refine did_val h (c := .v (.int .i64 0)) (x := goInt 0) (hex ?_) rfl hg
        rw [hs', hx']
        exact run_copy_none w t u o.type e _ _ _ _ _ _ hu hsz1 hmin
      · next j hmin =>
        replace hg := getO hg
        obtain ⟨y, hl, hg⟩ := hg
        split at hg
        · next cs e' size' =>
          obtain ⟨⟨hfit, hnl⟩, hg⟩ := hg
          obtain ⟨g', C', arr, h1, h2, h3, h4, h5⟩ := h.hst b _ hl
          rw [hm] at h1; cases h1
          have hlen : cs.length ≤ arr.size := by have := cells_len h4; simpa using this
          have hjk : j + 1 ≤ k := by have : Nat.min k n ≤ k := Nat.min_le_left k n; rw [hmin] at this; exact this
          have hjn : j + 1 ≤ n := by have : Nat.min k n ≤ n := Nat.min_le_right k n; rw [hmin] at this; exact this
          obtain ⟨q, rfl⟩ : ∃ q, ad = some q := by
            cases ad with
            | none => have := hnone rfl; omega
            | some q => exact ⟨q, rfl⟩
          replace hcell := hcell q rfl
          have ho' : o' = off := hoo.resolve_right (by omega)
          subst ho'
          have hxl : xs.length = k := by rw [← RWs_length hxs]; exact hnl
          have hr := run_copy_row (P := P) w t u o.type e g o' n c' q k cp arr e' (xs.take (j + 1)) hu hsz1 h3 (by rw [List.length_take, hmin]; omega) (by
            intro i v hv
            rw [List.getElem?_take] at hv
            split at hv
            · exact hcell i v hv
            · cases hv) (by rw [List.length_take]; omega) (fun v hv => RWs_ones hxs v (List.mem_of_mem_take hv))
          have hl2 : (xs.take (j + 1)).length = j + 1 := by rw [List.length_take]; omega
          rw [hl2] at hr
          have hR := h.setRow (x1 := .cells (cs.take o' ++ new.take (j + 1) ++ cs.drop (o' + (j + 1))) e' size') (arr' := (arr.toList.take o' ++ xs.take (j + 1) ++ arr.toList.drop (o' + (j + 1))).toArray) hl (by simp) hm h2 h3
            (fun hh => ⟨_, _, _, hm, h2, hh, splice_RWs h4 (RWs_take hxs _) (by rw [List.length_take]; omega) hfit, fun hz => by
              rw [← h5 hz]
              simp only [List.size_toArray, List.length_append, List.length_take, List.length_drop, Array.length_toList]
              omega⟩)
          exact ⟨_, _, _, m, .v (.int .i64 ((j + 1 : Nat) : Int)), _, hex (by rw [hs', hx']; exact hr), .inl rfl, hR.weakU fun _ e => e.1, fun _ _ e => e, rfl, hg⟩
        · cases hg
    · cases hg

theorem bound_d {q : Option Operand} {d i : Nat} (hρ : ∀ y, q = some y → RW m (ρ y) (a.eval y)) (hq : boundW ρ q d = some i) : (q = none ∧ i = d) ∨ ∃ y k, q = some y ∧ a.eval y = .int k (i : Int) := by
  cases q with
  | none => simp [boundW] at hq; exact .inl ⟨rfl, hq.symm⟩
  | some y =>
    obtain ⟨k, hk⟩ := natW_val hq (hρ y rfl)
    exact .inr ⟨y, k, rfl, hk⟩

theorem slice_d (h : RelM O w0 M0 N0 U m sz tm st a w) {t : TypeId} {x : Operand} {lo hi mx : Option Operand} (ho : o.op = .slice t x lo hi mx) (hx : RW m (ρ x) (a.eval x))
    (hlo : ∀ y, lo = some y → RW m (ρ y) (a.eval y)) (hhi : ∀ y, hi = some y → RW m (ρ y) (a.eval y)) (hmx : ∀ y, mx = some y → RW m (ρ y) (a.eval y)) (hg : (sliceW P ρ t x lo hi mx).go st K) : Did P o a w O w0 M0 N0 U m sz tm id K := by
  unfold sliceW at hg
  split at hg
  · next b off n cap hb =>
    rw [hb] at hx
    obtain ⟨g, C, o', c, hm, hx', hoo, hnc, hcm, hce, hcC⟩ := hx
    split at hg
    · next e he =>
      have hu := elem_u he
      split at hg
      · next size i j hs hi' hj' =>
        have fin : ∀ (M : Nat) (cap' : Option Nat), i ≤ j → j ≤ M → M ≤ c → (execOp a.eval o).run P w = .ok (.value (.slice (if M = i then some ⟨g, o', none⟩ else (some ⟨g, o', none⟩ : Option Addr).map (·.add (i * size))) (j - i) (M - i))) w →
            (∀ k, cap' = some k → M - i = k) → (cap' = none → off + i * size = 0 → M - i = C) → K (.sl b (off + i * size) (j - i) cap') st → Did P o a w O w0 M0 N0 U m sz tm id K := by
          intro M cap' hij hjM hMc hrun h1 h2 hk
          refine did_val h hrun (c := .sl b (off + i * size) (j - i) cap') ?_ hk
          by_cases hMi : M = i
          · refine ⟨g, C, o', M - i, hm, by rw [if_pos hMi], .inr (by omega), by omega, by omega, h1, h2⟩
          · refine ⟨g, C, o' + i * size, M - i, hm, by rw [if_neg hMi]; simp [Addr.add_lit], ?_, by omega, by omega, h1, h2⟩
            rcases hoo with rfl | h0
            · exact .inl rfl
            · omega
        split at hg
        · -- no third bound, cap unknown
          obtain ⟨⟨hpos, hij, hjn⟩, hk⟩ := hg
          refine fin c none hij (by omega) (Nat.le_refl _) ?_ (fun _ e => by cases e) (fun _ hz => ?_) hk
          · rcases bound_d hlo hi' with ⟨rfl, rfl⟩ | ⟨y, k1, rfl, hy⟩
            · rcases bound_d hhi hj' with ⟨rfl, rfl⟩ | ⟨z, k2, rfl, hz⟩
              · simp [execOp, ho, hx', Instr.sliceAt, Instr.slice, run_underlying hu, Instr.sliceBounds, sz_run hs]
              · have hjc : j ≤ c := by omega
                simp [execOp, ho, hx', Instr.sliceAt, Instr.slice, run_underlying hu, Instr.sliceBounds, Instr.sliceBound, asIntOf, sz_run hs, hz, hjc]
            · rcases bound_d hhi hj' with ⟨rfl, rfl⟩ | ⟨z, k2, rfl, hz⟩
              · simp [execOp, ho, hx', Instr.sliceAt, Instr.slice, run_underlying hu, Instr.sliceBounds, Instr.sliceBound, asIntOf, sz_run hs, hy, hij]
              · have hjc : j ≤ c := by omega
                simp [execOp, ho, hx', Instr.sliceAt, Instr.slice, run_underlying hu, Instr.sliceBounds, Instr.sliceBound, asIntOf, sz_run hs, hy, hz, hjc, hij]
          · have h0 : off = 0 := by omega
            have hi0 : i * size = 0 := by omega
            have hi0 : i = 0 := by rcases Nat.mul_eq_zero.1 hi0 with e | e <;> omega
            rw [hi0, Nat.sub_zero]; exact hcC rfl h0
        · next c0 =>
          obtain rfl := hce c0 rfl
          obtain ⟨⟨hij, hjc⟩, hk⟩ := hg
          refine fin c (some (c - i)) hij hjc (Nat.le_refl _) ?_ (fun _ e => by cases e; rfl) (fun e => by cases e) hk
          rcases bound_d hlo hi' with ⟨rfl, rfl⟩ | ⟨y, k1, rfl, hy⟩
          · rcases bound_d hhi hj' with ⟨rfl, rfl⟩ | ⟨z, k2, rfl, hz⟩
            · simp [execOp, ho, hx', Instr.sliceAt, Instr.slice, run_underlying hu, Instr.sliceBounds, sz_run hs]
            · simp [execOp, ho, hx', Instr.sliceAt, Instr.slice, run_underlying hu, Instr.sliceBounds, Instr.sliceBound, asIntOf, sz_run hs, hz, hjc]
          · rcases bound_d hhi hj' with ⟨rfl, rfl⟩ | ⟨z, k2, rfl, hz⟩
            · simp [execOp, ho, hx', Instr.sliceAt, Instr.slice, run_underlying hu, Instr.sliceBounds, Instr.sliceBound, asIntOf, sz_run hs, hy, hij]
            · simp [execOp, ho, hx', Instr.sliceAt, Instr.slice, run_underlying hu, Instr.sliceBounds, Instr.sliceBound, asIntOf, sz_run hs, hy, hz, hjc, hij]
        · next k0 =>
          split at hg
          · next z kk hkk =>
            obtain ⟨k3, hk3⟩ := natW_val hkk (hmx _ rfl)
            obtain ⟨⟨hij, hjk, hkn⟩, hk⟩ := hg
            refine fin kk (some (kk - i)) hij hjk (by omega) ?_ (fun _ e => by cases e; rfl) (fun e => by cases e) hk
            have hkc : kk ≤ c := by omega
            rcases bound_d hhi hj' with ⟨h0, _⟩ | ⟨z', k2, hz0, hz⟩
            · cases h0
            · cases hz0
              rcases bound_d hlo hi' with ⟨rfl, rfl⟩ | ⟨y, k1, rfl, hy⟩
              · simp [execOp, ho, hx', Instr.sliceAt, Instr.slice, run_underlying hu, Instr.sliceBounds, Instr.sliceBound, asIntOf, sz_run hs, hz, hk3, hjk, hkc]
              · simp [execOp, ho, hx', Instr.sliceAt, Instr.slice, run_underlying hu, Instr.sliceBounds, Instr.sliceBound, asIntOf, sz_run hs, hy, hz, hk3, hjk, hkc, hij]
          · cases hg
        · next k0 c0 =>
          obtain rfl := hce c0 rfl
          split at hg
          · next z kk hkk =>
            obtain ⟨k3, hk3⟩ := natW_val hkk (hmx _ rfl)
            obtain ⟨⟨hij, hjk, hkn⟩, hk⟩ := hg
            refine fin kk (some (kk - i)) hij hjk hkn ?_ (fun _ e => by cases e; rfl) (fun e => by cases e) hk
            rcases bound_d hhi hj' with ⟨h0, _⟩ | ⟨z', k2, hz0, hz⟩
            · cases h0
            · cases hz0
              rcases bound_d hlo hi' with ⟨rfl, rfl⟩ | ⟨y, k1, rfl, hy⟩
              · simp [execOp, ho, hx', Instr.sliceAt, Instr.slice, run_underlying hu, Instr.sliceBounds, Instr.sliceBound, asIntOf, sz_run hs, hz, hk3, hjk, hkn]
              · simp [execOp, ho, hx', Instr.sliceAt, Instr.slice, run_underlying hu, Instr.sliceBounds, Instr.sliceBound, asIntOf, sz_run hs, hy, hz, hk3, hjk, hkn, hij]
          · cases hg
      · cases hg
    · cases hg
  · cases hg
end
end Go.Ev.Mi
/- The mirror machine: the operations are done as the model does them: maps; all of them. -/
set_option linter.unusedVariables false
set_option linter.unusedSimpArgs false
namespace Go.Ev.Mi
open Go.RowKit

section
variable {P : Program}
variable {O : Nat → Prop} {w0 : World} {M0 : MM} {N0 : Nat} {U : Nat → Prop} {m : MM} {sz : Nat} {tm : TW} {st : SB} {a : Act} {w : World} {id : Nat} {K : W → SB → Prop} {o : Oper} {ρ : Operand → W}

/-- What is found, told by its place. -/
def FindR (es : List MapEntry) (i : Nat) : Option Nat → Option (Nat × Value) → Prop
  | none, R => R = none
  | some j, R => ∃ e, i ≤ j ∧ es[j - i]? = some e ∧ R = some (j, e.val)

theorem FindR.cons {e : MapEntry} {es : List MapEntry} {i : Nat} : ∀ {r : Option Nat} {R : Option (Nat × Value)}, FindR es (i + 1) r R → FindR (e :: es) i r R
  | none, R, h => h
  | some j, R, ⟨x, h1, h2, h3⟩ => ⟨x, by omega, by rw [show j - i = j - (i + 1) + 1 by omega, List.getElem?_cons_succ]; exact h2, h3⟩

theorem findNow_d {kind : TypeDesc} {k : Value} : ∀ (es : List MapEntry) (i : Nat), match findNowK kind k (es.map (·.key)) i with
    | some r => ∃ R, Instr.findNow kind k es i = some R ∧ FindR es i r R
    | none => Instr.findNow kind k es i = none
  | [], i => ⟨none, rfl, rfl⟩
  | e :: es, i => by
    have ih := findNow_d (kind := kind) (k := k) es (i + 1)
    simp only [List.map_cons, findNowK, Instr.findNow]
    cases hs : Instr.sameNow kind k e.key with
    | none => simp only
    | some b =>
      cases b with
      | true => exact ⟨_, rfl, e, Nat.le_refl _, by simp, rfl⟩
      | false =>
        simp only
        split at ih
        · next r hr =>
          obtain ⟨R, h1, h2⟩ := ih
          exact ⟨R, h1, h2.cons⟩
        · next hr => exact ih

theorem findAsk_d {kt : TypeId} {k : Value} (w : World) : ∀ (es : List MapEntry) (i : Nat) (r : Option Nat), findAskK P kt k (es.map (·.key)) i = some r → ∃ R, (Instr.findAsking kt k es i).run P w = .ok R w ∧ FindR es i r R
  | [], i, r, h => by cases h; exact ⟨none, rfl, rfl⟩
  | e :: es, i, r, h => by
    simp only [List.map_cons, findAskK] at h
    split at h
    · next hp => cases h; exact ⟨_, by simp [Instr.findAsking, prS_run _ _ w hp], e, Nat.le_refl _, by simp, rfl⟩
    · next hp =>
      obtain ⟨R, h1, h2⟩ := findAsk_d w es (i + 1) r h
      exact ⟨R, by simp [Instr.findAsking, prS_run _ _ w hp, h1], h2.cons⟩
    · cases h

theorem find_d {kt : TypeId} {k : Value} (w : World) (es : List MapEntry) {r : Option Nat} (h : findK P kt k (es.map (·.key)) = some r) : ∃ R, (Instr.findKey kt k es).run P w = .ok R w ∧ FindR es 0 r R := by
  unfold findK at h
  split at h
  · cases h
  · next d hu =>
    have hn := findNow_d (kind := d) (k := k) es 0
    split at h
    · next r' hr =>
      cases h
      rw [hr] at hn
      obtain ⟨R, h1, h2⟩ := hn
      exact ⟨R, by simp [Instr.findKey, run_underlying hu, h1], h2⟩
    · next hr =>
      rw [hr] at hn
      obtain ⟨R, h1, h2⟩ := findAsk_d w es 0 r h
      exact ⟨R, by simp [Instr.findKey, run_underlying hu, hn, h1], h2⟩

theorem okKey_run {emp : Bool} {kt : TypeId} {k : Value} (w : World) (h : okKey P emp kt k = true) : (Instr.checkKey emp 10000 kt k).run P w = .ok () w := by
  obtain ⟨u, hu⟩ := Option.isSome_iff_exists.1 h
  exact prS_run _ _ w hu

theorem run_getObj_any {g : Nat} {ob : Obj} (hb : w.heap[g]? = some ob) (hc : ∀ c e f, ob ≠ .cells c e f) : (getObj g).run P w = .ok ob w := by
  cases ob with
  | cells c e f => exact absurd rfl (hc _ _ _)
  | _ => simp [getObj, Sem.run, hb]

theorem run_setObj_any {g : Nat} {ob : Obj} (hb : w.heap[g]? = some ob) (hc : ∀ c e f, ob ≠ .cells c e f) (x : Obj) : (setObj g x).run P w = .ok () (w.putObj g x) := by
  cases ob with
  | cells c e f => exact absurd rfl (hc _ _ _)
  | _ => simp [setObj, Sem.run, hb, World.putObj]

theorem map_keys {es : List (Value × W × Nat)} {arr : Array MapEntry} (hl : es.length = arr.size) (he : ∀ (i : Nat) (e : Value × W × Nat) (x : MapEntry), es[i]? = some e → arr[i]? = some x → RE m e x) : arr.toList.map (·.key) = es.map (·.1) := by
  apply List.ext_getElem?
  intro i
  rw [List.getElem?_map, List.getElem?_map]
  by_cases hi : i < es.length
  · have h1 : es[i]? = some es[i] := List.getElem?_eq_getElem hi
    have h2 : arr[i]? = some (arr[i]'(by omega)) := Array.getElem?_eq_getElem (by omega)
    rw [h1, Array.getElem?_toList, h2]
    simp [(he i _ _ h1 h2).1]
  · rw [List.getElem?_eq_none (by simp; omega), List.getElem?_eq_none (by omega)]
    rfl

theorem lookup_d (h : RelM O w0 M0 N0 U m sz tm st a w) {t : TypeId} {x i : Operand} {ok : Bool} (ho : o.op = .lookup t x i ok) (hx : RW m (ρ x) (a.eval x)) (hi : RW m (ρ i) (a.eval i)) (hg : (lookupW P ρ t x i ok).go st K) : Did P o a w O w0 M0 N0 U m sz tm id K := by
  unfold lookupW at hg
  split at hg
  · next kt et k ht hk =>
    have hu := map_u ht
    have hk' := pl_RW _ _ _ hk hi
    split at hg
    · next b hb =>
      rw [hb] at hx
      obtain ⟨g, C, hm, hx'⟩ := hx
      replace hg := getO hg
      obtain ⟨y, hl, hg⟩ := hg
      split at hg
      · next es clock =>
        obtain ⟨g', C', arr, h1, h2, h3, h4, h5⟩ := h.hst b _ hl
        rw [hm] at h1; cases h1
        have hemp : arr.isEmpty = es.isEmpty := by
          cases es with
          | nil => simp only [List.isEmpty_nil]; rw [Array.isEmpty_iff_size_eq_zero]; exact h4.symm
          | cons e es => simp only [List.isEmpty_cons]; rw [Bool.eq_false_iff]; intro hc; rw [Array.isEmpty_iff_size_eq_zero] at hc; simp at h4; omega
        split at hg
        · next hok =>
          have hok' := okKey_run w hok
          split at hg
          · next zz j hf =>
            rw [← map_keys h4 h5] at hf
            obtain ⟨R, hr, e, _, he, hR⟩ := find_d w arr.toList hf
            subst hR
            split at hg
            · next e' he' =>
              have he2 : arr[j]? = some e := by simpa using he
              obtain ⟨q1, q2, q3⟩ := h5 j e' e he' he2
              cases ok with
              | true =>
                refine did_val h (c := .tup [e'.2.1, .v (.bool true)]) (x := .tuple #[e.val, .bool true]) ?_ ⟨_, rfl, ⟨q2, fun e => (by cases e)⟩, ⟨rfl, fun e => (by cases e)⟩, trivial⟩ hg
                simp [execOp, ho, hx', hk', Instr.lookup, run_underlying hu, run_getObj_any h3 (fun _ _ _ e => by cases e), hemp, hok', hr]
              | false =>
                refine did_val h (x := e.val) ?_ q2 hg
                simp [execOp, ho, hx', hk', Instr.lookup, run_underlying hu, run_getObj_any h3 (fun _ _ _ e => by cases e), hemp, hok', hr]
            · cases hg
          · next z hf hz =>
            rw [← map_keys h4 h5] at hf
            obtain ⟨R, hr, hR⟩ := find_d w arr.toList hf
            have hR : R = none := hR
            subst hR
            have hzr := zeroV_run w hz
            cases ok with
            | true =>
              refine did_val h (c := .tup [toW0 z, .v (.bool false)]) (x := .tuple #[z, .bool false]) ?_ ⟨_, rfl, ⟨RW_toW0 z, fun e => (by cases e)⟩, ⟨rfl, fun e => (by cases e)⟩, trivial⟩ hg
              simp [execOp, ho, hx', hk', Instr.lookup, run_underlying hu, run_getObj_any h3 (fun _ _ _ e => by cases e), hemp, hok', hr, hzr]
            | false =>
              refine did_val h (x := z) ?_ (RW_toW0 z) hg
              simp [execOp, ho, hx', hk', Instr.lookup, run_underlying hu, run_getObj_any h3 (fun _ _ _ e => by cases e), hemp, hok', hr, hzr]
          · cases hg
        · cases hg
      · cases hg
    · next hb =>
      rw [hb] at hx
      have hx' : a.eval x = .map none := hx
      split at hg
      · next z hok hff hz =>
        have hok' := okKey_run w hok
        have hzr := zeroV_run w hz
        obtain ⟨R, hf, hR⟩ := find_d w ([] : List MapEntry) (r := none) hff
        have hR : R = none := hR
        subst hR
        cases ok with
        | true =>
          refine did_val h (c := .tup [toW0 z, .v (.bool false)]) (x := .tuple #[z, .bool false]) ?_ ⟨_, rfl, ⟨RW_toW0 z, fun e => (by cases e)⟩, ⟨rfl, fun e => (by cases e)⟩, trivial⟩ hg
          simp [execOp, ho, hx', hk', Instr.lookup, run_underlying hu, hok', hf, hzr]
        | false =>
          refine did_val h (x := z) ?_ (RW_toW0 z) hg
          simp [execOp, ho, hx', hk', Instr.lookup, run_underlying hu, hok', hf, hzr]
      · cases hg
    · cases hg
  · cases hg

theorem update_d (h : RelM O w0 M0 N0 U m sz tm st a w) {t : TypeId} {x i v : Operand} (ho : o.op = .mapUpdate t x i v ∨ o.op = .insert t x i v) (hx : RW m (ρ x) (a.eval x)) (hi : RW m (ρ i) (a.eval i)) (hv : RW m (ρ v) (a.eval v)) (hg : (updateW P ρ t x i v).go st K) : Did P o a w O w0 M0 N0 U m sz tm id K := by
  have hex : ∀ {w' : World}, (Instr.mapUpdate t (a.eval x) (a.eval i) (a.eval v)).run P w = .ok () w' → (execOp a.eval o).run P w = .ok .skip w' := by
    intro w' hr
    rcases ho with ho | ho <;> simp [execOp, ho, hr]
  unfold updateW at hg
  split at hg
  · next kt et k b ht hk hb =>
    have hu := map_u ht
    have hk' := pl_RW _ _ _ hk hi
    rw [hb] at hx
    obtain ⟨g, C, hm, hx'⟩ := hx
    replace hg := getO hg
    obtain ⟨y, hl, hg⟩ := hg
    split at hg
    · next es clock =>
      obtain ⟨g', C', arr, h1, h2, h3, h4, h5⟩ := h.hst b _ hl
      rw [hm] at h1; cases h1
      have hnc : ∀ c e f, (Obj.map arr clock) ≠ .cells c e f := fun _ _ _ e => by cases e
      split at hg
      · next hok =>
        have hok' := okKey_run w hok
        split at hg
        · next j hf =>
          rw [← map_keys h4 h5] at hf
          obtain ⟨R, hr, e, _, he, hR⟩ := find_d w arr.toList hf
          subst hR
          split at hg
          · next e' he' =>
            have he2 : arr[j]? = some e := by simpa using he
            obtain ⟨q1, q2, q3⟩ := h5 j e' e he' he2
            have hj : j < es.length := (List.getElem?_eq_some_iff.1 he').1
            split at hg
            · next hsb =>
              have hkeep : (Instr.keyThatStays e.key k).run P w = .ok k w := by
                rw [q1]
                simp [Instr.keyThatStays, hsb]
              have hR := h.putObj (x1 := .map (es.set j (k, ρ v, e'.2.2)) clock) hl (by simp) hm h2 (o := .map (arr.modify j fun e => { e with key := k, val := a.eval v }) clock) (fun hh => ⟨_, _, _, hm, h2, hh, by simp [h4], fun i e1 x1 he1 hx1 => by
                rw [List.getElem?_set] at he1
                rw [Array.getElem?_modify] at hx1
                by_cases hij : j = i
                · subst hij
                  rw [if_pos rfl, if_pos hj] at he1
                  rw [if_pos rfl, he2] at hx1
                  cases he1
                  cases hx1
                  exact ⟨rfl, hv, q3⟩
                · rw [if_neg hij] at he1
                  rw [if_neg hij] at hx1
                  exact h5 i e1 x1 he1 hx1⟩)
              refine ⟨.skip, undef, _, m, .top, _, hex ?_, .inr ⟨rfl, rfl⟩, hR.weakU fun _ e => e.1, fun _ _ e => e, trivial, hg⟩
              rw [hx', hk']
              simp [Instr.mapUpdate, run_underlying hu, run_getObj_any h3 hnc, hok', hr, he2, hkeep, run_setObj_any h3 hnc]
            · cases hg
          · cases hg
        · next hf =>
          rw [← map_keys h4 h5] at hf
          obtain ⟨R, hr, hR⟩ := find_d w arr.toList hf
          have hR : R = none := hR
          subst hR
          have hR := h.putObj (x1 := .map (es ++ [(k, ρ v, clock)]) (clock + 1)) hl (by simp) hm h2 (o := .map (arr.push { key := k, val := a.eval v, born := clock }) (clock + 1)) (fun hh => ⟨_, _, _, hm, h2, hh, by simp [h4], fun i e1 x1 he1 hx1 => by
            rw [Array.getElem?_push] at hx1
            split at hx1
            · next hi2 =>
              subst hi2
              rw [List.getElem?_append_right (by omega), h4, Nat.sub_self] at he1
              cases he1; cases hx1
              exact ⟨rfl, hv, rfl⟩
            · next hi2 =>
              have hlt : i < arr.size := (Array.getElem?_eq_some_iff.1 hx1).1
              rw [List.getElem?_append_left (by omega)] at he1
              exact h5 i e1 x1 he1 hx1⟩)
          refine ⟨.skip, undef, _, m, .top, _, hex ?_, .inr ⟨rfl, rfl⟩, hR.weakU fun _ e => e.1, fun _ _ e => e, trivial, hg⟩
          rw [hx', hk']
          simp [Instr.mapUpdate, run_underlying hu, run_getObj_any h3 hnc, hok', hr, run_setObj_any h3 hnc]
        · cases hg
      · cases hg
    · cases hg
  · cases hg

theorem intBin_d {op : BinOp} {k : IntKind} {x y : Int} (hg : (intBinW op k x y).go st K) (t : TypeId) (w : World) : ∃ v, (binOp op t (.int k x) (.int k y)).run P w = .ok v w ∧ K (.v v) st := by
  cases op <;> simp only [intBinW] at hg <;> first
    | (cases hg; done)
    | (obtain ⟨h0, hg⟩ := hg; refine ⟨_, ?_, hg⟩; simp [binOp, Op.intDiv, h0]; done)
    | (refine ⟨_, ?_, hg⟩; simp [binOp, Op.intArith, Op.intCmp]; done)

theorem bin_d (h : RelM O w0 M0 N0 U m sz tm st a w) {op : BinOp} {t u : TypeId} {x y : Operand} (ho : o.op = .binOp op t x y u) (hρ : ∀ z ∈ o.op.operands, RW m (ρ z) (a.eval z)) (hg : (binW P ρ o op t x y).go st K) : Did P o a w O w0 M0 N0 U m sz tm id K := by
  have hx := hρ x (by simp [ho, Op.operands])
  have hy := hρ y (by simp [ho, Op.operands])
  have hp : (pureW P ρ o).go st K → Did P o a w O w0 M0 N0 U m sz tm id K := pure_d h (fun cs b e => by rw [ho] at e; cases e) hρ
  unfold binW at hg
  split at hg
  · next k i j k2 hb hc =>
    rw [hb] at hx; rw [hc] at hy
    have hx' : a.eval x = .int k i := hx
    have hy' : a.eval y = .int j k2 := hy
    split at hg
    · obtain ⟨rfl, hg⟩ := hg
      obtain ⟨v, hr, hk⟩ := intBin_d (P := P) hg t w
      refine did_val h (c := .v v) (x := v) ?_ rfl hk
      simp [execOp, ho, hx', hy', eqGuard_int, hr]
    · exact hp hg
  · next b off n cap hb hc =>
    rw [hb] at hx; rw [hc] at hy
    obtain ⟨g, C, o', c', hm, hx', _⟩ := hx
    have hy' : a.eval y = .slice none 0 0 := hy
    split at hg
    · next e hu =>
      cases op <;> simp only [nilCmp] at hg <;> first | (cases hg; done) | skip
      · refine did_val h (c := .v (.bool false)) (x := .bool false) ?_ rfl hg
        simp [execOp, ho, hx', hy', eqGuard_at_slice, eql_slice_nil w t e _ _ _ hu]
      · refine did_val h (c := .v (.bool true)) (x := .bool true) ?_ rfl hg
        simp [execOp, ho, hx', hy', eqGuard_at_slice, run_neq_slice_nil w t e _ _ _ hu]
    · cases hg
  · next b off hb hc =>
    rw [hb] at hx; rw [hc] at hy
    obtain ⟨g, C, hm, hx'⟩ := hx
    have hy' : a.eval y = .pointer none := hy
    split at hg
    · next e hu =>
      have hpt : P.underlying t = some (.pointer (P.pointee t)) := by
        rw [hu]; simp [Program.pointee, hu]
      cases op <;> simp only [nilCmp] at hg <;> first | (cases hg; done) | skip
      · refine did_val h (c := .v (.bool false)) (x := .bool false) ?_ rfl hg
        simp [execOp, ho, hx', hy', eqGuard, run_eql_pointer_nil w t _ hpt]
      · refine did_val h (c := .v (.bool true)) (x := .bool true) ?_ rfl hg
        simp [execOp, ho, hx', hy', eqGuard, run_neq_pointer_nil w t _ hpt]
    · cases hg
  · exact hp hg

theorem caps_d {caps : List Operand} (hc : ∀ x ∈ caps, RW m (ρ x) (a.eval x)) : RWs m false (caps.map ρ) (caps.map a.eval) := by
  rw [RWs_iff]
  refine ⟨by simp, fun i c y hc' hy => ?_⟩
  rw [List.getElem?_map] at hc' hy
  cases hx : caps[i]? with
  | none => simp [hx] at hc'
  | some x =>
    simp only [hx, Option.map_some, Option.some.injEq] at hc' hy
    subst hc' hy
    exact ⟨hc x (List.mem_of_getElem? hx), fun e => by cases e⟩

/-- AN OPERATION IS DONE AS THE MODEL DOES IT. -/
theorem op_d (h : RelM O w0 M0 N0 U m sz tm st a w) (hU : U id) (hρ : ∀ z ∈ o.op.operands, RW m (ρ z) (a.eval z)) (hg : (opM P id ρ o).go st K) : Did P o a w O w0 M0 N0 U m sz tm id K := by
  have hp : (∀ cs b, o.op ≠ .select cs b) → (pureW P ρ o).go st K → Did P o a w O w0 M0 N0 U m sz tm id K := fun hs => pure_d h hs hρ
  cases ho : o.op with
  | move x =>
    simp only [opM, ho] at hg
    exact did_val h (x := a.eval x) (by simp [execOp, ho]) (hρ x (by simp [ho, Op.operands])) hg
  | assign x =>
    simp only [opM, ho] at hg
    exact did_val h (x := a.eval x) (by simp [execOp, ho]) (hρ x (by simp [ho, Op.operands])) hg
  | pick c x y =>
    have hc := hρ c (by simp [ho, Op.operands])
    simp only [opM, ho] at hg
    split at hg
    · next hb =>
      rw [hb] at hc
      have hc' : a.eval c = .bool true := hc
      exact did_val h (x := a.eval x) (by simp [execOp, ho, hc', asBool]) (hρ x (by simp [ho, Op.operands])) hg
    · next hb =>
      rw [hb] at hc
      have hc' : a.eval c = .bool false := hc
      exact did_val h (x := a.eval y) (by simp [execOp, ho, hc', asBool]) (hρ y (by simp [ho, Op.operands])) hg
    · cases hg
  | alloc t => exact alloc_d h hU ho hg
  | box t x => exact box_d h hU ho (hρ x (by simp [ho, Op.operands])) hg
  | build t parts => exact build_d h ho (fun p hp => hρ p.2 (by simp only [ho, Op.operands]; simp; exact ⟨p.1, by simpa using hp⟩)) hg
  | buildSlice t n parts => exact buildSlice_d h hU ho (fun p hp => hρ p.2 (by simp only [ho, Op.operands]; simp; exact ⟨p.1, by simpa using hp⟩)) hg
  | load t x => exact load_d h ho (hρ x (by simp [ho, Op.operands])) hg
  | store t p x => exact store_d h ho (hρ p (by simp [ho, Op.operands])) (hρ x (by simp [ho, Op.operands])) hg
  | nilCheck x =>
    have hx := hρ x (by simp [ho, Op.operands])
    simp only [opM, ho] at hg
    split at hg
    · next b off hb =>
      rw [hb] at hx
      have hx0 := hx
      obtain ⟨g, C, hm, hx'⟩ := hx
      exact did_val h (x := a.eval x) (by simp [execOp, ho, hx']) hx0 hg
    · next g caps hb =>
      rw [hb] at hx
      have hx0 := hx
      obtain ⟨arr, hx', _⟩ := hx
      exact did_val h (x := a.eval x) (by simp [execOp, ho, hx']) hx0 hg
    · next t y hb =>
      rw [hb] at hx
      have hx0 := hx
      obtain ⟨z, hx', _⟩ := hx
      exact did_val h (x := a.eval x) (by simp [execOp, ho, hx']) hx0 hg
    · cases hg
  | binOp op t x y u => exact bin_d h ho hρ (by simpa only [opM, ho] using hg)
  | makeFunc fn first caps =>
    simp only [opM, ho] at hg
    split at hg
    · next g hf =>
      have hf' : first = #[] := by cases first; simp_all
      subst hf'
      refine did_val h (c := .fn g (caps.toList.map ρ)) (x := .func (.func g) #[] (caps.map a.eval)) (by simp [execOp, ho, Instr.makeFunc]) ⟨_, rfl, ?_⟩ hg
      rw [Array.toList_map]
      exact caps_d fun x hx => hρ x (by simp [ho, Op.operands]; simpa using hx)
    · cases hg
  | makeInterface t x =>
    simp only [opM, ho] at hg
    split at hg
    · cases hg
    · cases hg
    · next d hu hni hd =>
      refine did_val h (c := .ifc t (ρ x)) (x := .iface t (a.eval x)) ?_ ⟨_, rfl, hρ x (by simp [ho, Op.operands])⟩ hg
      have : (Instr.makeInterface t (a.eval x)).run P w = .ok (.iface t (a.eval x)) w := by
        simp only [Instr.makeInterface, Sem.run_bind, run_underlying hd, Result.andThen_ok]
        cases d <;> first | rfl | exact absurd hd (hu _)
      simp [execOp, ho, this]
  | typeAssert x xt asserted ok =>
    have hx := hρ x (by simp [ho, Op.operands])
    simp only [opM, ho] at hg
    split at hg
    · next t y hb =>
      rw [hb] at hx
      obtain ⟨z, hx', hz⟩ := hx
      split at hg
      · cases hg
      · cases hg
      · next d hu hni hd =>
        split at hg
        · next hte =>
          have hte := Nat.eq_of_beq_eq_true hte
          subst hte
          cases ok with
          | true =>
            refine did_val h (c := .tup [y, .v (.bool true)]) (x := .tuple #[z, .bool true]) ?_ ⟨_, rfl, ⟨hz, fun e => (by cases e)⟩, ⟨rfl, fun e => (by cases e)⟩, trivial⟩ hg
            have : (Instr.typeAssert (.iface t z) xt t true).run P w = .ok (.tuple #[z, .bool true]) w := by
              simp only [Instr.typeAssert, Sem.run_bind, run_underlying hd, Result.andThen_ok]
              cases d <;> first | (simp; done) | exact absurd hd (hu _)
            simp [execOp, ho, hx', this]
          | false =>
            refine did_val h (c := y) (x := z) ?_ hz hg
            have : (Instr.typeAssert (.iface t z) xt t false).run P w = .ok z w := by
              simp only [Instr.typeAssert, Sem.run_bind, run_underlying hd, Result.andThen_ok]
              cases d <;> first | (simp; done) | exact absurd hd (hu _)
            simp [execOp, ho, hx', this]
        · next hte =>
          have hte : t ≠ asserted := by rintro rfl; simp at hte
          split at hg
          · next zz hzv =>
            have hzr := zeroV_run w hzv
            refine did_val h (c := .tup [toW0 zz, .v (.bool false)]) (x := .tuple #[zz, .bool false]) ?_ ⟨_, rfl, ⟨RW_toW0 zz, fun e => (by cases e)⟩, ⟨rfl, fun e => (by cases e)⟩, trivial⟩ hg
            have : (Instr.typeAssert (.iface t z) xt asserted true).run P w = .ok (.tuple #[zz, .bool false]) w := by
              simp only [Instr.typeAssert, Sem.run_bind, run_underlying hd, Result.andThen_ok]
              cases d <;> first | (simp [hte, hzr]; done) | exact absurd hd (hu _)
            simp [execOp, ho, hx', this]
          · cases hg
    · exact hp (fun cs b e => by rw [ho] at e; cases e) hg
  | makeMap t r =>
    have fin : (execOp a.eval o).run P w = .ok (.value (.map (some w.heap.size))) (w.alloc (.map #[] 0)) → K (.mp id) ((id, .map [] 0) :: st) → Did P o a w O w0 M0 N0 U m sz tm id K := by
      intro hr hk
      obtain ⟨hR, hm⟩ := h.new (id := id) 0 hU (o := .map #[] 0) (x := .map [] 0) (by simp) (by
        intro m' hm hid hh
        exact ⟨_, _, #[], hid, h.own_new, hh, rfl, fun i e x he _ => by simp at he⟩)
      exact ⟨_, _, _, _, .mp id, _, hr, .inl rfl, hR, hm, ⟨w.heap.size, 0, by simp, rfl⟩, hk⟩
    simp only [opM, ho] at hg
    split at hg
    · exact fin (by simp [execOp, ho, Instr.makeMap]) hg
    · next r =>
      split at hg
      · next q kt hq ht =>
        obtain ⟨k, n⟩ := q
        have hr := hρ r (by simp [ho, Op.operands])
        have hr' : a.eval r = .int k n := by
          unfold intW at hq
          split at hq
          · next k' n' hb => cases hq; rw [hb] at hr; exact hr
          · cases hq
        exact fin (by simp [execOp, ho, Instr.makeMap, run_underlying (map_u ht), hr', asInt, asIntOf]) hg
      · cases hg
  | lookup t x i ok => exact lookup_d h ho (hρ x (by simp [ho, Op.operands])) (hρ i (by simp [ho, Op.operands])) (by simpa only [opM, ho] using hg)
  | mapUpdate t x i v => exact update_d h (.inl ho) (hρ x (by simp [ho, Op.operands])) (hρ i (by simp [ho, Op.operands])) (hρ v (by simp [ho, Op.operands])) (by simpa only [opM, ho] using hg)
  | insert t x i v => exact update_d h (.inr ho) (hρ x (by simp [ho, Op.operands])) (hρ i (by simp [ho, Op.operands])) (hρ v (by simp [ho, Op.operands])) (by simpa only [opM, ho] using hg)
  | slice t x lo hi mx =>
    simp only [opM, ho] at hg
    split at hg
    · exact hp (fun cs b e => by rw [ho] at e; cases e) hg
    · exact slice_d h ho (hρ x (by simp [ho, Op.operands])) (fun y hy => hρ y (by simp [ho, Op.operands, hy])) (fun y hy => hρ y (by simp [ho, Op.operands, hy])) (fun y hy => hρ y (by simp [ho, Op.operands, hy])) hg
  | fieldAddr s x f =>
    have hx := hρ x (by simp [ho, Op.operands])
    simp only [opM, ho] at hg
    split at hg
    · next b off i t hb hf =>
      split at hg
      · next n hs =>
        rw [hb] at hx
        obtain ⟨g, C, hm, hx'⟩ := hx
        obtain ⟨fs, x0, hu, h0, h1, h2⟩ := field_u hf
        subst h1 h2
        refine did_val h (c := .ptr b (off + x0.offset)) (x := .pointer (some ⟨g, off + x0.offset, none⟩)) ?_ ⟨g, C, hm, rfl⟩ hg
        simp [execOp, ho, hx', Instr.fieldAt, run_underlying hu, h0, Instr.sureAddr, fieldPlace, sz_run hs, Addr.add_lit]
      · cases hg
    · cases hg
  | field s x f =>
    have hx := hρ x (by simp [ho, Op.operands])
    simp only [opM, ho] at hg
    split at hg
    · next cs i t hb hf =>
      rw [hb] at hx
      obtain ⟨arr, hx', hc⟩ := hx
      have hl := RWs_length hc
      obtain ⟨c, v, hv, hk, _, hrun⟩ := take_sound (w := w) (xs := arr.toList) hg (by rw [List.take_of_length_le (by omega)]; exact hc)
      obtain ⟨fs, x0, hu, h0, h1, h2⟩ := field_u hf
      subst h1 h2
      have hrun := hrun (by omega)
      rw [Array.toArray_toList] at hrun
      refine did_val h (x := v) ?_ hv hk
      simp [execOp, ho, hx', Instr.field, run_underlying hu, h0, asAgg, hrun]
    · cases hg
  | indexAddr t x i =>
    have hx := hρ x (by simp [ho, Op.operands])
    have hi := hρ i (by simp [ho, Op.operands])
    simp only [opM, ho] at hg
    split at hg
    · next b off n cap j hb hj =>
      rw [hb] at hx
      obtain ⟨k, hi'⟩ := natW_val hj hi
      obtain ⟨g, C, o', c', hm, hx', hoo, hnc, _⟩ := hx
      split at hg
      · next e he =>
        split at hg
        · next size hs =>
          obtain ⟨hjn, hg⟩ := hg
          have ho' : o' = off := hoo.resolve_right (by omega)
          subst ho'
          refine did_val h (c := .ptr b (o' + j * size)) (x := .pointer (some ⟨g, o' + j * size, none⟩)) ?_ ⟨g, C, hm, rfl⟩ hg
          simp [execOp, ho, hx', hi', Instr.indexAt, asIntOf, run_underlying (elem_u he), hjn, sz_run hs, Addr.add_lit]
        · cases hg
      · cases hg
    · next b off j hb hj =>
      rw [hb] at hx
      obtain ⟨k, hi'⟩ := natW_val hj hi
      obtain ⟨g, C, hm, hx'⟩ := hx
      split at hg
      · next n e he =>
        split at hg
        · next size hs =>
          obtain ⟨hjn, hg⟩ := hg
          refine did_val h (c := .ptr b (off + j * size)) (x := .pointer (some ⟨g, off + j * size, none⟩)) ?_ ⟨g, C, hm, rfl⟩ hg
          simp [execOp, ho, hx', hi', Instr.indexAt, asIntOf, run_underlying (arr_u he), Instr.sureAddr, hjn, sz_run hs, Addr.add_lit]
        · cases hg
      · cases hg
    · cases hg
  | index t x i =>
    have hx := hρ x (by simp [ho, Op.operands])
    have hi := hρ i (by simp [ho, Op.operands])
    simp only [opM, ho] at hg
    split at hg
    · next cs hb =>
      rw [hb] at hx
      obtain ⟨arr, hx', hc⟩ := hx
      have hl := RWs_length hc
      split at hg
      · next j n e hj he =>
        obtain ⟨k, hi'⟩ := natW_val hj hi
        split at hg
        · next size hs =>
          obtain ⟨hjn, hg⟩ := hg
          obtain ⟨c, v, hv, hk, _, hrun⟩ := take_sound (w := w) (xs := arr.toList) hg (by rw [List.take_of_length_le (by omega)]; exact hc)
          have hrun := hrun (by omega)
          rw [Array.toArray_toList] at hrun
          refine did_val h (x := v) ?_ hv hk
          simp [execOp, ho, hx', hi', Instr.index, asIntOf, run_underlying (arr_u he), hjn, sz_run hs, hrun]
        · cases hg
      · cases hg
    · exact hp (fun cs b e => by rw [ho] at e; cases e) hg
  | extract x i =>
    have hx := hρ x (by simp [ho, Op.operands])
    simp only [opM, ho] at hg
    split at hg
    · next vs hb =>
      rw [hb] at hx
      obtain ⟨arr, hx', hc⟩ := hx
      split at hg
      · next c hci =>
        have hlen := RWs_length hc
        have hi : i < vs.length := (List.getElem?_eq_some_iff.1 hci).1
        have hxi : arr.toList[i]? = some (arr.toList[i]'(by omega)) := List.getElem?_eq_getElem (by omega)
        have hv := ((RWs_iff.1 hc).2 i c _ hci hxi).1
        refine did_val h (x := arr.toList[i]'(by omega)) ?_ hv hg
        have hxa : arr[i]? = some (arr.toList[i]'(by omega)) := by rw [← hxi]; simp
        simp [execOp, ho, hx', Instr.extract, hxa]
      · cases hg
    · cases hg
  | makeSlice t l c => exact makeSlice_d h hU ho (hρ l (by simp [ho, Op.operands])) (hρ c (by simp [ho, Op.operands])) hg
  | call c =>
    obtain ⟨callee, args, ts⟩ := c
    cases callee with
    | value f => simp only [opM, ho] at hg; cases hg
    | invoke r n => simp only [opM, ho] at hg; cases hg
    | builtin b =>
      have hpp := hp (fun cs b e => by rw [ho] at e; cases e)
      simp only [opM, ho] at hg
      split at hg
      · next s x t u hsx htu =>
        have hargs : args = #[s, x] := by cases args; simp_all
        have htys : ts = #[t, u] := by cases ts; simp_all
        subst hargs htys
        exact append_d h hU ho (hρ s (by simp [ho, Op.operands, Call.operands])) (hρ x (by simp [ho, Op.operands, Call.operands])) hg
      · next s x t u hsx htu =>
        have hargs : args = #[s, x] := by cases args; simp_all
        have htys : ts = #[t, u] := by cases ts; simp_all
        subst hargs htys
        exact copy_d h ho (hρ s (by simp [ho, Op.operands, Call.operands])) (hρ x (by simp [ho, Op.operands, Call.operands])) hg
      · next x t hsx htu =>
        have hargs : args = #[x] := by cases args; simp_all
        have htys : ts = #[t] := by cases ts; simp_all
        subst hargs htys
        have hx := hρ x (by simp [ho, Op.operands, Call.operands])
        have run : ∀ {n : Int}, (Builtin.len_ #[t] o.type #[a.eval x]).run P w = .ok (.int .i64 n) w → (execOp a.eval o).run P w = .ok (.value (.int .i64 n)) w := by
          intro n hr
          rw [run_builtin ho]
          simp [builtin, hr]
        split at hg
        · next b off n cap hb =>
          rw [hb] at hx
          obtain ⟨g, C, o', c', hm, hx', _⟩ := hx
          split at hg
          · next e he =>
            exact did_val h (c := .v (.int .i64 n)) (x := .int .i64 n) (run (by simp [Builtin.len_, run_underlying (elem_u he), hx', goInt])) rfl hg
          · cases hg
        · next b hb =>
          rw [hb] at hx
          obtain ⟨g, C, hm, hx'⟩ := hx
          split at hg
          · next kt he =>
            replace hg := getO hg
            obtain ⟨y, hl, hg⟩ := hg
            split at hg
            · next es clock =>
              obtain ⟨g', C', arr, h1, h2, h3, h4, h5⟩ := h.hst b _ hl
              rw [hm] at h1; cases h1
              exact did_val h (c := .v (.int .i64 (es.length : Int))) (x := .int .i64 (es.length : Int)) (run (by simp [Builtin.len_, run_underlying (map_u he), hx', goInt, run_getObj_any h3 (fun _ _ _ e => by cases e), h4])) rfl hg
            · cases hg
          · cases hg
        · exact hpp hg
      · next x t hsx htu =>
        have hargs : args = #[x] := by cases args; simp_all
        have htys : ts = #[t] := by cases ts; simp_all
        subst hargs htys
        have hx := hρ x (by simp [ho, Op.operands, Call.operands])
        split at hg
        · next b off n c hb =>
          rw [hb] at hx
          obtain ⟨g, C, o', c', hm, hx', _, _, _, hce, _⟩ := hx
          obtain rfl := hce c rfl
          split at hg
          · next e he =>
            refine did_val h (c := .v (.int .i64 c')) (x := .int .i64 c') ?_ rfl hg
            rw [run_builtin ho]
            simp [builtin, Builtin.cap_, run_underlying (elem_u he), hx', goInt]
          · cases hg
        · exact hpp hg
      · exact hpp hg
  | go c => simp only [opM, ho] at hg; cases hg
  | defer c => simp only [opM, ho] at hg; cases hg
  | select cs b => simp only [opM, ho] at hg; cases hg
  | _ => exact hp (fun cs b e => by rw [ho] at e; cases e) (by simpa only [opM, ho] using hg)
end
end Go.Ev.Mi
/- The mirror machine: calls see what they can reach; steps. -/
set_option linter.unusedVariables false
set_option linter.unusedSimpArgs false
namespace Go.Ev.Mi
open Go.RowKit
noncomputable section

def deads (sr : SB) : SB := sr.map fun p => (p.1, B.dead)

theorem look_deads : ∀ (sr : SB) (b : Nat), look (deads sr) b = (look sr b).map fun _ => B.dead
  | [], b => rfl
  | (i, x) :: sr, b => by
    show look ((i, B.dead) :: deads sr) b = _
    rw [look_cons, look_cons]
    split
    · rfl
    · exact look_deads sr b

section
variable {O : Nat → Prop} {w0 : World} {M0 : MM} {N0 : Nat} {U : Nat → Prop} {m : MM} {sz : Nat} {tm : TW} {st : SB} {a : Act} {w : World}

/-- What a call may own: what it can reach, and what it makes. -/
def OwnF (O : Nat → Prop) (m : MM) (st sr : SB) (g : Nat) : Prop := O g ∧ ∀ b C, alive st b → m b = some (g, C) → ∃ x, look sr b = some x

theorem RelM.frame_in (h : RelM O w0 M0 N0 U m sz tm st a w) {top : Nat} (hU : ∀ b, top ≤ b → U b) {sr : SB} (hsr : ∀ b x, look sr b = some x → look st b = some x) :
    RelH (OwnF O m st sr) w m top top m sr w := by
  have hal : ∀ b, alive sr b → alive st b := by rintro b ⟨x, hx, h0⟩; exact ⟨x, hsr b x hx, h0⟩
  refine { htm := fun i => trivial, hsz := rfl, hst := ?_, inj := fun b b' g c c' a1 a2 => h.inj b b' g c c' (hal b a1) (hal b' a2), fresh := ?_, un := fun b hb => hb, mlt := h.mlt, pin := fun _ _ e => e, low := fun _ _ e => .inl e, below := Own.refl _ _, hb := ?_ }
  · intro b x hx
    by_cases hd : x = .dead
    · subst hd; trivial
    refine (h.hst b x (hsr b x hx)).mono (fun _ _ e => e) fun g C hg ho => ⟨rfl, ho, fun b' C' ha hm => ?_⟩
    have := h.inj b b' g C C' ⟨x, hsr b x hx, hd⟩ ha hg hm
    subst this
    exact ⟨x, hx⟩
  · intro b hb
    refine ⟨?_, (h.fresh b (hU b hb)).2⟩
    cases e : look sr b with
    | none => rfl
    | some x => have := hsr b x e; rw [(h.fresh b (hU b hb)).1] at this; cases this
  · intro g hg
    refine ⟨h.hb g (Nat.le_trans h.below.size hg), fun b C _ hm => ?_⟩
    have := h.mlt _ _ _ hm
    omega

theorem RelM.frame_out (h : RelM O w0 M0 N0 U m sz tm st a w) {top top' : Nat} (hU : ∀ b, top ≤ b → U b) (htt : top ≤ top') {sr : SB} (hsr : ∀ b x, look sr b = some x → look st b = some x) {m' : MM} {s2 : SB} {w' : World}
    (hs2 : ∀ b x, look s2 b = some x → top ≤ b ∨ ∃ y, look sr b = some y) (k : RelH (OwnF O m st sr) w m top top' m' s2 w') :
    RelM O w0 M0 N0 (fun b => U b ∧ (top ≤ b → top' ≤ b)) m' sz tm (s2 ++ (deads sr ++ st)) a w' := by
  have hlk : ∀ b, look (s2 ++ (deads sr ++ st)) b = (look s2 b).or (((look sr b).map fun _ => B.dead).or (look st b)) := by
    intro b
    rw [look_append, look_append, look_deads]
  have cases3 : ∀ b x, look (s2 ++ (deads sr ++ st)) b = some x → look s2 b = some x ∨ x = .dead ∨ (look s2 b = none ∧ look sr b = none ∧ look st b = some x) := by
    intro b x hx
    rw [hlk] at hx
    cases h2 : look s2 b with
    | some y => rw [h2] at hx; exact .inl (by simpa using hx)
    | none =>
      rw [h2] at hx
      cases h1 : look sr b with
      | some y => rw [h1] at hx; right; left; simpa using hx.symm
      | none => rw [h1] at hx; right; right; exact ⟨rfl, rfl, by simpa using hx⟩
  have hout : ∀ b x, look sr b = none → look st b = some x → x ≠ .dead → ∀ g C, m b = some (g, C) → ¬ OwnF O m st sr g := by
    intro b x h1 h2 h3 g C hm ho
    obtain ⟨y, hy⟩ := ho.2 b C ⟨x, h2, h3⟩ hm
    rw [h1] at hy; cases hy
  refine { htm := fun i => RW.mono k.pin _ _ (h.htm i), hsz := h.hsz, hst := ?_, inj := ?_, fresh := ?_, un := fun b hb => h.un b hb.1, mlt := k.mlt, pin := fun b y e => k.pin b y (h.pin b y e), low := ?_, below := h.below.trans (k.below.mono fun g hg => hg.1), hb := h.hb }
  · intro b x hx
    rcases cases3 b x hx with h2 | rfl | ⟨h2, h1, h0⟩
    · exact (k.hst b x h2).mono (fun _ _ e => e) fun g C _ ho => ⟨rfl, ho.1⟩
    · trivial
    · by_cases hd : x = .dead
      · subst hd; trivial
      exact (h.hst b x h0).mono k.pin fun g C hg ho => ⟨k.below.block g (hout b x h1 h0 hd g C hg), ho⟩
  · have kind : ∀ b, alive (s2 ++ (deads sr ++ st)) b → ∀ g C, m' b = some (g, C) → (alive s2 b ∧ OwnF O m st sr g) ∨ (alive st b ∧ m b = some (g, C) ∧ ¬ OwnF O m st sr g) := by
      rintro b ⟨x, hx, hd⟩ g C hg
      rcases cases3 b x hx with h2 | rfl | ⟨h2, h1, h0⟩
      · obtain ⟨g', C', h3, h4⟩ := (k.hst b x h2).at hd
        rw [hg] at h3; cases h3
        exact .inl ⟨⟨x, h2, hd⟩, h4⟩
      · exact absurd rfl hd
      · obtain ⟨g', C', h3, h4⟩ := (h.hst b x h0).at hd
        have := k.pin _ _ h3
        rw [hg] at this; cases this
        exact .inr ⟨⟨x, h0, hd⟩, h3, hout b x h1 h0 hd g C h3⟩
    intro b b' g c c' ha ha' hg hg'
    rcases kind b ha g c hg with ⟨q1, q2⟩ | ⟨q1, q2, q3⟩
    · rcases kind b' ha' g c' hg' with ⟨p1, p2⟩ | ⟨p1, p2, p3⟩
      · exact k.inj b b' g c c' q1 p1 hg hg'
      · exact absurd q2 p3
    · rcases kind b' ha' g c' hg' with ⟨p1, p2⟩ | ⟨p1, p2, p3⟩
      · exact absurd p2 q3
      · exact h.inj b b' g c c' q1 p1 q2 p2
  · rintro b ⟨hb, hbt⟩
    obtain ⟨e1, e2⟩ := h.fresh b hb
    have hsrn : look sr b = none := by
      cases e : look sr b with
      | none => rfl
      | some x => have := hsr b x e; rw [e1] at this; cases this
    by_cases hle : top ≤ b
    · obtain ⟨k1, k2⟩ := k.fresh b (hbt hle)
      exact ⟨by rw [hlk, k1, hsrn, e1]; rfl, k2⟩
    · have hs2n : look s2 b = none := by
        cases e : look s2 b with
        | none => rfl
        | some x =>
          rcases hs2 b x e with h1 | ⟨y, hy⟩
          · exact absurd h1 hle
          · rw [hsrn] at hy; cases hy
      refine ⟨by rw [hlk, hs2n, hsrn, e1]; rfl, ?_⟩
      cases e : m' b with
      | none => rfl
      | some y =>
        rcases k.low b y e with h1 | h1
        · rw [e2] at h1; cases h1
        · exact absurd h1 hle
  · intro b y e
    rcases k.low b y e with h1 | h1
    · exact h.low b y h1
    · exact .inr (Nat.le_trans (h.un top (hU top (Nat.le_refl _))) h1)
end

/-! What can be reached. -/
mutual
def refsW : W → List Nat
  | .ptr b _ => [b]
  | .sl b _ _ _ => [b]
  | .mp b => [b]
  | .yld b => [b]
  | .agg cs => refsL cs
  | .tup cs => refsL cs
  | .fn _ caps => refsL caps
  | .ifc _ x => refsW x
  | .v _ => []
  | .top => []
def refsL : List W → List Nat
  | [] => []
  | c :: cs => refsW c ++ refsL cs
end
def refsB : B → List Nat
  | .cells cs _ _ => refsL cs
  | .map es _ => es.flatMap fun e => refsW e.2.1
  | .loop r => r.tm.flatMap fun p => refsW p.2
  | _ => []
def cloW (st : SB) : Nat → List Nat → List Nat → List Nat
  | 0, _, kept => kept
  | _ + 1, [], kept => kept
  | n + 1, b :: work, kept => match memN kept b with
    | true => cloW st n work kept
    | false => match look st b with
      | some x => cloW st n (refsB x ++ work) (b :: kept)
      | none => cloW st n work kept
/-- The boxes that are reached. -/
def pickS (st : SB) : List Nat → SB
  | [] => []
  | b :: l => match look st b with
    | some x => (b, x) :: pickS st l
    | none => pickS st l
def reach (st : SB) (l : List Nat) : SB := pickS st (cloW st 100000 l [])

theorem look_pick (st : SB) : ∀ (l : List Nat) (b : Nat) (x : B), look (pickS st l) b = some x → look st b = some x
  | [], b, x, h => by cases h
  | c :: l, b, x, h => by
    simp only [pickS] at h
    split at h
    · next y hy =>
      rw [look_cons] at h
      split at h
      · next e => subst e; cases h; exact hy
      · exact look_pick st l b x h
    · exact look_pick st l b x h

theorem look_keys : ∀ (st : SB) (b : Nat) (x : B), look st b = some x → b ∈ st.map (·.1)
  | [], b, x, h => by cases h
  | (i, y) :: st, b, x, h => by
    rw [look_cons] at h
    split at h
    · next e => subst e; simp
    · simp [look_keys st b x h]

/-- A call: what is called, its arguments, the boxes, the first new number. -/
abbrev WH := W → List W → SB → Nat → Option (W × SB × Nat)

def After (O : Nat → Prop) (w : World) (m : MM) (top : Nat) (st' : SB) (top' : Nat) (r : W) (e : Ending) (w' : World) : Prop :=
  ∃ v m', e = .returned v ∧ RelH O w m top top' m' st' w' ∧ RW m' r v
def FnOK (P : Program) (g : FuncId) (args : List W) (st : SB) (top : Nat) (r : W) (st' : SB) (top' : Nat) : Prop :=
  ∀ (O : Nat → Prop) (m : MM) (w : World) (vs : List Value), RelH O w m top top m st w → RWs m false args vs → Calls P g vs.toArray w (After O w m top st' top' r)
def YldOK (P : Program) (b : Nat) (args : List W) (st : SB) (top : Nat) (r : W) (st' : SB) (top' : Nat) : Prop :=
  ∀ (O : Nat → Prop) (m : MM) (w : World) (vs : List Value), RelH O w m top top m st w → RWs m false args vs → ∀ g C, m b = some (g, C) →
    ∃ fn tmps assign body, (Instr.yield g vs.toArray).run P w = .ok (.round g fn tmps assign body) w ∧ ∀ FF, Wide FF → RoundIn FF 0 P g fn tmps assign body w (After O w m top st' top' r)
def HOK (P : Program) (H : WH) : Prop := ∀ c avs st top r st' top', H c avs st top = some (r, st', top') → top ≤ top' ∧ match c with
  | .fn g caps => EntersOK P g ∧ FnOK P g (avs ++ caps) st top r st' top'
  | .yld b => YldOK P b avs st top r st' top'
  | _ => False

section
variable (P : Program)

/-! The same values, reckoned out. -/
section
variable {β : Type}
def kO (n : Option Nat) (k : Option Nat → β) : β := match n with
  | none => k none
  | some n => kN n fun n => k (some n)
mutual
def kW (c : W) (k : W → β) : β := match c with
  | .top => k .top
  | .v (.int j n) => kI n fun n => k (.v (.int j n))
  | .v (.bool b) => kB b fun b => k (.v (.bool b))
  | .v x => k (.v x)
  | .agg cs => kWs cs fun cs => k (.agg cs)
  | .tup cs => kWs cs fun cs => k (.tup cs)
  | .ptr b off => kN b fun b => kN off fun off => k (.ptr b off)
  | .sl b off n cap => kN b fun b => kN off fun off => kN n fun n => kO cap fun cap => k (.sl b off n cap)
  | .mp b => kN b fun b => k (.mp b)
  | .fn g caps => kWs caps fun caps => k (.fn g caps)
  | .yld b => kN b fun b => k (.yld b)
  | .ifc t x => kW x fun x => k (.ifc t x)
def kWs (cs : List W) (k : List W → β) : β := match cs with
  | [] => k []
  | c :: cs => kW c fun c => kWs cs fun cs => k (c :: cs)
end
def kE : List (Value × W × Nat) → (List (Value × W × Nat) → β) → β
  | [], k => k []
  | (x, c, n) :: es, k => kW c fun c => kN n fun n => kE es fun es => k ((x, c, n) :: es)
def kX (x : B) (k : B → β) : β := match x with
  | .cells cs e size => kWs cs fun cs => k (.cells cs e size)
  | .map es c => kE es fun es => kN c fun c => k (.map es c)
  | x => k x
def kSB : SB → (SB → β) → β
  | [], k => k []
  | (b, x) :: st, k => kN b fun b => kX x fun x => kSB st fun st => k ((b, x) :: st)

theorem kO_eq (n : Option Nat) (k : Option Nat → β) : kO n k = k n := by cases n <;> simp only [kO, kN_eq]
mutual
theorem kW_eq : ∀ (c : W) (k : W → β), kW c k = k c
  | .top, k => rfl
  | .v x, k => by
    cases x <;> simp only [kW, kI_eq, kB_eq]
  | .agg cs, k => by simp only [kW, kWs_eq cs]
  | .tup cs, k => by simp only [kW, kWs_eq cs]
  | .ptr b off, k => by simp only [kW, kN_eq]
  | .sl b off n cap, k => by simp only [kW, kN_eq, kO_eq]
  | .mp b, k => by simp only [kW, kN_eq]
  | .fn g caps, k => by simp only [kW, kWs_eq caps]
  | .yld b, k => by simp only [kW, kN_eq]
  | .ifc t x, k => by simp only [kW, kW_eq x]
theorem kWs_eq : ∀ (cs : List W) (k : List W → β), kWs cs k = k cs
  | [], k => by simp only [kWs]
  | c :: cs, k => by simp only [kWs, kW_eq c, kWs_eq cs]
end
theorem kE_eq : ∀ (es : List (Value × W × Nat)) (k : List (Value × W × Nat) → β), kE es k = k es
  | [], k => rfl
  | (x, c, n) :: es, k => by simp only [kE, kW_eq, kN_eq, kE_eq es]
theorem kX_eq (x : B) (k : B → β) : kX x k = k x := by
  unfold kX
  split <;> simp only [kWs_eq, kE_eq, kN_eq]
theorem kSB_eq : ∀ (st : SB) (k : SB → β), kSB st k = k st
  | [], k => rfl
  | (b, x) :: st, k => by simp only [kSB, kN_eq, kX_eq, kSB_eq st]
end

/-- A step: its value, what it writes, what it reads, the next new number. -/
def xcallF (H : WH) (c : W) (avs : List W) (st : SB) (top : Nat) : Option (W × SB × List Nat × Nat) :=
  let sr := reach st (refsW c ++ refsL avs)
  match H c avs sr top with
  | some (r, s2, top') => match s2.all fun p => Nat.ble top p.1 || (look sr p.1).isSome with
    | true => some (r, s2 ++ deads sr, sr.map (·.1), top')
    | false => none
  | none => none

def isCallO : Op → Bool
  | .call { callee := .value _, .. } => true
  | .call { callee := .invoke _ _, .. } => true
  | _ => false

/-- The function that a method of a dynamic type is, whose receiver is the value as it is. -/
def invokeW (t : TypeId) (name : String) : Option FuncId := match P.info? t with
  | some i => match i.methods.find? (·.name == name) with
    | some mt => match mt.path.toList, mt.func with
      | [], some (f, pr) => match P.underlying t, pr with
        | some (.pointer _), true => some f
        | some (.pointer _), false => none
        | some _, false => some f
        | _, _ => none
      | _, _ => none
    | none => none
  | none => none

def xstep (H : WH) (id top : Nat) (tm : TW) (st : SB) (o : Oper) : Option (W × SB × List Nat × Nat) := match o.op with
  | .call { callee := .value f, args, .. } => xcallF H (evW tm f) (args.toList.map (evW tm)) st top
  | .call { callee := .invoke r name, args, .. } => match evW tm r with
    | .ifc t x => match invokeW P t name with
      | some g => xcallF H (.fn g []) (x :: args.toList.map (evW tm)) st top
      | none => none
    | _ => none
  | _ => match (opM P id (evW tm) o).x st [] [] with
    | some (v, _, rs, us) => kW v fun v => kSB us fun us => some (v, us, rs, top)
    | none => none

/-- A step is one of the model's, wherever what it reads is the same. -/
def StepOK (sz : Nat) (ops : Array Oper) (o : Oper) (id top : Nat) (tm : TW) (L : Nat → Option B) (rs : List Nat) (us : SB) (v : W) (top' : Nat) : Prop :=
  ∀ (tm2 : TW) (st2 : SB), (∀ t ∈ o.looksAt ops, look tm2 t = look tm t) → (∀ b ∈ rs, look st2 b = L b) →
    ∀ (O : Nat → Prop) (w0 : World) (M0 : MM) (N0 : Nat) (U : Nat → Prop) (m : MM) (a : Act) (w : World) (next : Act → World → Prop) (Q : Exit → Act → World → Prop), RelM O w0 M0 N0 U m sz tm2 st2 a w → U id → (isCallO o.op = true → ∀ b, top ≤ b → U b) →
      (∀ m' a' w', RelM O w0 M0 N0 (fun b => U b ∧ b ≠ id ∧ (isCallO o.op = true → top ≤ b → top' ≤ b)) m' sz (putW tm2 o.dst v) (us ++ st2) a' w' → (∀ b y, m b = some y → m' b = some y) → a'.defers = a.defers → next a' w') → o.wpX P a w next Q
end

section
variable {P : Program}

theorem put_defers (a : Act) (d : Option Tmp) (x : Value) : (a.put d x).defers = a.defers := by cases d <;> rfl

theorem args_d {m : MM} {tm : TW} {a : Act} {l : List Operand} (h : ∀ x ∈ l, RW m (evW tm x) (a.eval x)) : RWs m false (l.map (evW tm)) (l.map a.eval) := caps_d h

theorem evW_look {tm tm' : TW} {x : Operand} (h : ∀ t, x = .tmp t → look tm' t = look tm t) : evW tm' x = evW tm x := by
  cases x with
  | tmp t => simp only [evW, h t rfl]
  | _ => rfl

theorem invoke_run {t : TypeId} {name : String} {g : FuncId} (hi : invokeW P t name = some g) (henter : EntersOK P g) {x : Value} {args : Array Value} (w : World) : (callMethod (.iface t x) name args).run P w = .ok (.enter g (#[x] ++ args)) w := by
  unfold invokeW at hi
  split at hi
  · next i hti =>
    split at hi
    · next mt hm =>
      split at hi
      · next f pr hp hf =>
        have hpath : mt.path.toList = [] := hp
        have hr : (∀ wr, (receiverAt t (.val x) pr wr).run P w = .ok x w) ∧ f = g := by
          split at hi
          · next e hu => cases hi; exact ⟨fun wr => by simp [receiverAt, run_underlying hu, Place.get], rfl⟩
          · cases hi
          · next d hu hnp hd =>
            cases hi
            refine ⟨fun wr => ?_, rfl⟩
            simp only [receiverAt, Sem.run_bind, run_underlying hd, Result.andThen_ok]
            cases d <;> first | (simp [Place.get]; done) | exact absurd hd (hnp _)
          · cases hi
        obtain ⟨hr, rfl⟩ := hr
        have hfuel : P.types.size + Made.depth = (P.types.size + Made.depth - 1) + 1 := by simp [Made.depth]
        have hmeth : (method (P.types.size + Made.depth) t x name).run P w = .ok (f, x) w := by
          rw [hfuel]
          simp [method, typeInfo, hti, hm, hpath, follow, hf, hr]
        simp only [callMethod, Sem.run_bind, program, Sem.run, Result.andThen, Sem.run_pure, hmeth]
        exact henter _ _
      · cases hi
    · cases hi
  · cases hi

theorem xstep_ok {H : WH} (hH : HOK P H) {sz : Nat} {ops : Array Oper} {o : Oper} {id top : Nat} {tm : TW} {st : SB} {v : W} {us : SB} {rs : List Nat} {top' : Nat} (hd : okDst sz o.dst = true)
    (hx : xstep P H id top tm st o = some (v, us, rs, top')) : top ≤ top' ∧ (isCallO o.op = false → top' = top) ∧ StepOK P sz ops o id top tm (look st) rs us v top' := by
  have plain : isCallO o.op = false → (match (opM P id (evW tm) o).x st [] [] with
      | some (v, _, rs, us) => kW v fun v => kSB us fun us => some (v, us, rs, top)
      | none => none) = some (v, us, rs, top') → top ≤ top' ∧ (isCallO o.op = false → top' = top) ∧ StepOK P sz ops o id top tm (look st) rs us v top' := by
    intro hnc he
    split at he
    · next v1 st1 rs1 us1 h1 =>
      rw [kW_eq, kSB_eq] at he
      cases he
      refine ⟨Nat.le_refl _, fun _ => rfl, ?_⟩
      intro tm2 st2 ht hr O w0 M0 N0 U m a w next Q h hU _ hn
      obtain ⟨vs, e1, e2, e3, e4⟩ := T.x_us _ _ _ _ _ _ _ _ h1
      have h2 := e4 st2 hr
      simp only [List.append_nil] at e1
      subst e1
      have hρ : ∀ z ∈ o.op.operands, RW m (evW tm z) (a.eval z) := by
        intro z hz
        have := h.ev z
        rwa [evW_look (tm := tm) fun t e => ht t (by subst e; exact mem_looksAt hz)] at this
      obtain ⟨n, x, w', m', v', st', hrun, hcase, hR, hmm, hrw, hv', hs'⟩ := op_d (id := id) h hU hρ (T.x_go (K := fun v' s' => v' = v ∧ s' = us ++ st2) _ _ _ _ _ _ _ _ h2 ⟨rfl, rfl⟩)
      subst hv' hs'
      have fin := hn m' _ w' ((hR.weakU (U' := fun b => U b ∧ b ≠ id ∧ (isCallO o.op = true → top ≤ b → top ≤ b)) fun b e => ⟨e.1, e.2.1⟩).put hd hrw) hmm (put_defers _ _ _)
      rcases hcase with rfl | ⟨rfl, rfl⟩
      · exact fin_value hrun fin
      · exact fin_skip hrun fin
    · cases he
  have called : ∀ (c : W) (avs : List W), isCallO o.op = true → (∀ z ∈ o.op.operands, ∀ b ∈ refsW (evW tm z), True) → xcallF H c avs st top = some (v, us, rs, top') →
      (∀ (tm2 : TW) (m : MM) (a : Act) (w : World), (∀ t ∈ o.looksAt ops, look tm2 t = look tm t) → (∀ z ∈ o.op.operands, RW m (evW tm z) (a.eval z)) →
        (∃ g caps vs, c = .fn g caps ∧ (EntersOK P g → (execOp a.eval o).run P w = .ok (.enter g vs.toArray) w) ∧ RWs m false (avs ++ caps) vs) ∨
        (∃ b vs, c = .yld b ∧ ∀ g C, m b = some (g, C) → (∀ n, (Instr.yield g vs.toArray).run P w = .ok n w → (execOp a.eval o).run P w = .ok n w) ∧ RWs m false avs vs) ∧ ∃ b g C, c = .yld b ∧ m b = some (g, C)) →
      top ≤ top' ∧ (isCallO o.op = false → top' = top) ∧ StepOK P sz ops o id top tm (look st) rs us v top' := by
    intro c avs hco _ hcall hargs
    unfold xcallF at hcall
    simp only at hcall
    split at hcall
    · next r s2 top1 hc1 =>
      split at hcall
      · next hall =>
        cases hcall
        obtain ⟨htt, hcase⟩ := hH _ _ _ _ _ _ _ hc1
        refine ⟨htt, fun e => (by rw [hco] at e; cases e), ?_⟩
        intro tm2 st2 ht hr O w0 M0 N0 U m a w next Q h hU hUt hn
        replace hUt := hUt hco
        have hops : ∀ z ∈ o.op.operands, RW m (evW tm z) (a.eval z) := by
          intro z hz
          have := h.ev z
          rwa [evW_look (tm := tm) fun t e => ht t (by subst e; exact mem_looksAt hz)] at this
        have hsr : ∀ b x, look (reach st (refsW c ++ refsL avs)) b = some x → look st2 b = some x := by
          intro b x hb
          rw [hr b (look_keys _ _ _ hb)]
          exact look_pick _ _ _ _ hb
        have hs2 : ∀ b x, look s2 b = some x → top ≤ b ∨ ∃ y, look (reach st (refsW c ++ refsL avs)) b = some y := by
          intro b x hb
          have := List.all_eq_true.1 hall (b, x) (look_mem hb)
          simp only [Bool.or_eq_true] at this
          rcases this with h1 | h1
          · exact .inl (Nat.le_of_ble_eq_true h1)
          · exact .inr (Option.isSome_iff_exists.1 h1)
        have fin : ∀ m' x w', RelH (OwnF O m st2 (reach st (refsW c ++ refsL avs))) w m top top' m' s2 w' → RW m' v x → next (a.put o.dst x) w' := by
          intro m' x w' k hrw
          have hR := h.frame_out hUt htt hsr hs2 k
          rw [← List.append_assoc] at hR
          exact hn m' _ w' ((hR.weakU fun b e => ⟨e.1, e.2.2 hco⟩).put hd hrw) k.pin (put_defers _ _ _)
        have hnd : ∀ {n : Next}, (execOp a.eval o).run P w = .ok n w → (∀ d, n ≠ .defer d) → o.semAt = o.semAt := fun _ _ => rfl
        rcases hargs tm2 m a w ht hops with ⟨g, caps, vs, rfl, hrun, hval⟩ | ⟨⟨b, vs, rfl, hrun⟩, b', g, C, hb', hm⟩
        · obtain ⟨henter, hok⟩ := hcase
          have hrun := hrun henter
          intro FF hW
          refine ⟨fun f _ => hW.fn f, ?_⟩
          rw [Oper.semAt_eq _ _ _ (not_defer hrun (fun d e => by cases e)), hrun]
          refine ⟨fun e => (by rw [hW.dep] at e; cases e), (callsIn_of_calls hW ?_)⟩
          refine (hok _ m w _ (h.frame_in hUt hsr) hval).mono ?_
          rintro e w' ⟨x, m', rfl, k, hrw⟩
          exact fin m' x w' k hrw
        · cases hb'
          obtain ⟨hrun, hval⟩ := hrun g C hm
          obtain ⟨fn, tmps, assign, body, hy, hround⟩ := hcase _ m w _ (h.frame_in hUt hsr) hval g C hm
          have hrun := hrun _ hy
          intro FF hW
          refine ⟨fun f _ => hW.fn f, ?_⟩
          rw [Oper.semAt_eq _ _ _ (not_defer hrun (fun d e => by cases e)), hrun]
          refine ⟨fun e => (by rw [hW.dep] at e; cases e), (hround FF hW).mono ?_⟩
          rintro e w' ⟨x, m', rfl, k, hrw⟩
          exact fin m' x w' k hrw
      · cases hcall
    · cases hcall
  unfold xstep at hx
  split at hx
  · next f args ts ho =>
    have hH2 := hx
    refine called _ _ (by simp [ho, isCallO]) (fun _ _ _ _ => trivial) hx ?_
    intro tm2 m a w ht hops
    have hf : RW m (evW tm f) (a.eval f) := hops f (by simp [ho, Op.operands, Call.operands])
    have hargs := args_d (m := m) (tm := tm) (a := a) (l := args.toList) fun x hx => hops x (by simp [ho, Op.operands, Call.operands]; right; simpa using hx)
    -- what is called
    have hkind : (∃ g caps, evW tm f = .fn g caps) ∨ (∃ b, evW tm f = .yld b) := by
      unfold xcallF at hH2
      simp only at hH2
      split at hH2
      · next r s2 top1 hc1 =>
        have := (hH _ _ _ _ _ _ _ hc1).2
        revert this
        generalize evW tm f = cf
        intro this
        cases cf <;> first | exact .inl ⟨_, _, rfl⟩ | exact .inr ⟨_, rfl⟩ | exact this.elim
      · cases hH2
    rcases hkind with ⟨g, caps, hcf⟩ | ⟨b, hcf⟩
    · rw [hcf] at hf ⊢
      obtain ⟨arr, hf', hcaps⟩ := hf
      refine .inl ⟨g, caps, args.toList.map a.eval ++ arr.toList, rfl, fun henter => ?_, RWs_append hargs hcaps⟩
      simp only [execOp, ho, resolve, Deferred.ofValue, hf', Sem.run_bind, Sem.run_pure, Result.andThen_ok, invoke]
      have e : (#[] ++ args.map a.eval ++ arr) = (args.toList.map a.eval ++ arr.toList).toArray := by
        apply Array.ext'
        simp
      rw [e, henter]
    · rw [hcf] at hf ⊢
      obtain ⟨g, C, hm, hf'⟩ := hf
      refine .inr ⟨⟨b, args.toList.map a.eval, rfl, fun g' C' hm' => ⟨fun n hy => ?_, hargs⟩⟩, b, g, C, rfl, hm⟩
      rw [hm] at hm'; cases hm'
      simp only [execOp, ho, resolve, Deferred.ofValue, hf', Sem.run_bind, Sem.run_pure, Result.andThen_ok, invoke]
      have e : (#[] ++ args.map a.eval) = (args.toList.map a.eval).toArray := by
        apply Array.ext'
        simp
      rw [e, hy]
  · next r name args ts ho =>
    split at hx
    · next t y hcf =>
      split at hx
      · next g hi =>
        refine called _ _ (by simp [ho, isCallO]) (fun _ _ _ _ => trivial) hx ?_
        intro tm2 m a w ht hops
        have hf : RW m (evW tm r) (a.eval r) := hops r (by simp [ho, Op.operands, Call.operands])
        have hargs := args_d (m := m) (tm := tm) (a := a) (l := args.toList) fun x hx => hops x (by simp [ho, Op.operands, Call.operands]; right; simpa using hx)
        rw [hcf] at hf
        obtain ⟨z, hf', hz⟩ := hf
        refine .inl ⟨g, [], z :: args.toList.map a.eval, rfl, fun henter => ?_, by rw [List.append_nil]; exact ⟨⟨hz, fun e => by cases e⟩, hargs⟩⟩
        have e : (#[Value.iface t z] ++ args.map a.eval).extract 1 (#[Value.iface t z] ++ args.map a.eval).size = args.map a.eval := by
          apply Array.ext'
          simp
          exact List.take_of_length_le (by simp)
        have e2 : (#[z] ++ args.map a.eval) = (z :: args.toList.map a.eval).toArray := by apply Array.ext'; simp
        have e3 : (#[Value.iface t z] ++ args.map a.eval)[0]? = some (Value.iface t z) := by
          rw [Array.getElem?_append_left (by simp)]; rfl
        have hrun : (execOp a.eval o).run P w = (callMethod (.iface t z) name (args.map a.eval)).run P w := by
          have h1 : (invoke (.fn (.method name) #[]) (#[Value.iface t z] ++ args.map a.eval)).run P w = (callMethod (.iface t z) name (args.map a.eval)).run P w := by
            unfold invoke
            simp only [e3, e]
          rw [← h1, ← hf']
          simp only [execOp, ho, resolve, Sem.run_bind, Sem.run_pure, Result.andThen_ok]
        rw [hrun, invoke_run hi henter, e2]
      · cases hx
    · cases hx
  · next hno hno2 =>
    refine plain ?_ hx
    cases ho : o.op with
    | call c =>
      obtain ⟨callee, args, ts⟩ := c
      cases callee with
      | value f => exact absurd ho (hno _ _ _)
      | invoke r n => exact absurd ho (hno2 _ _ _ _)
      | _ => rfl
    | _ => rfl
end
end
end Go.Ev.Mi
/- The mirror machine: regions, in the order of the text, and in whatever order. -/
set_option linter.unusedVariables false
set_option linter.unusedSimpArgs false
namespace Go.Ev.Mi
open Go.RowKit
noncomputable section

/-- A deferred call, or a range's mark. -/
inductive DW where
  | mark (b : Nat)
  | call (g : FuncId) (args caps : List W)

def RD (m : MM) : DW → Deferred → Prop
  | .mark b, d => ∃ g C, m b = some (g, C) ∧ d = { target := .collected g, args := #[] }
  | .call g args caps, d => ∃ (vs cs : List Value), d = { target := .fn (.func g) cs.toArray, args := vs.toArray } ∧ RWs m false args vs ∧ RWs m false caps cs
def RDs (m : MM) : List DW → List Deferred → Prop
  | [], [] => True
  | x :: xs, d :: ds => RD m x d ∧ RDs m xs ds
  | _, _ => False
theorem RD.mono {m m' : MM} (hm : ∀ b y, m b = some y → m' b = some y) : ∀ {x : DW} {d : Deferred}, RD m x d → RD m' x d
  | .mark b, d, ⟨g, C, h1, h2⟩ => ⟨g, C, hm _ _ h1, h2⟩
  | .call g args caps, d, ⟨vs, cs, h1, h2, h3⟩ => ⟨vs, cs, h1, RWs.mono hm _ _ h2, RWs.mono hm _ _ h3⟩
theorem RDs.mono {m m' : MM} (hm : ∀ b y, m b = some y → m' b = some y) : ∀ {xs : List DW} {ds : List Deferred}, RDs m xs ds → RDs m' xs ds
  | [], [], _ => trivial
  | _ :: _, _ :: _, ⟨h1, h2⟩ => ⟨h1.mono hm, h2.mono hm⟩
  | [], _ :: _, h => h.elim
  | _ :: _, [], h => h.elim

/-- What a slot holds whose operation was passed over. -/
abbrev vS : W := .tup []
theorem RW_vS {m : MM} : RW m vS undef := ⟨#[], rfl, trivial⟩

def wantW (all : List Oper) (tm : TW) : Option (Nat × Bool) → Option Bool
  | none => some true
  | some (j, w) => match (all[j]?).bind (·.dst) with
    | none => none
    | some d => match (look tm d).getD .top with
      | .v (.bool b) => some (b == w)
      | .tup _ => some false
      | _ => none

section
variable {P : Program} {O : Nat → Prop} {w0 : World} {M0 : MM} {N0 : Nat} {U : Nat → Prop} {m : MM} {sz : Nat} {tm : TW} {st : SB} {a : Act} {w : World}

theorem RelM.yielded_b (h : RelM O w0 M0 N0 U m sz tm st a w) {ops : Array Oper} {j d : Nat} {b : Bool} (hd : (ops.toList[j]?).bind (·.dst) = some d) (hb : (look tm d).getD .top = .v (.bool b)) : Go.yielded ops a.tmps j = some b := by
  have h1 := h.htm d
  rw [hb] at h1
  have h2 : a.tmps.getD d undef = .bool b := h1
  have h3 : a.tmps[d]? = some (.bool b) := by
    rw [Array.getD_eq_getD_getElem?] at h2
    cases h4 : a.tmps[d]? with
    | none => rw [h4] at h2; simp [undef] at h2
    | some v => rw [h4] at h2; simp at h2; rw [h2]
  rw [Array.getElem?_toList] at hd
  simp [Go.yielded, hd, h3]

theorem RelM.yielded_not (h : RelM O w0 M0 N0 U m sz tm st a w) {ops : Array Oper} {j d : Nat} {l : List W} (hd : (ops.toList[j]?).bind (·.dst) = some d) (hb : (look tm d).getD .top = .tup l) : Go.yielded ops a.tmps j = none := by
  have h1 := h.htm d
  rw [hb] at h1
  obtain ⟨arr, h2, _⟩ := h1
  rw [Array.getElem?_toList] at hd
  rw [Array.getD_eq_getD_getElem?] at h2
  cases h4 : a.tmps[d]? with
  | none => simp [Go.yielded, hd, h4]
  | some v =>
    rw [h4] at h2
    simp at h2
    subst h2
    simp [Go.yielded, hd, h4]

theorem RelM.wanted (h : RelM O w0 M0 N0 U m sz tm st a w) {ops : Array Oper} {o : Oper} {b : Bool} (hw : wantW ops.toList tm o.guard = some b) : Region.wanted o (Go.yielded ops a.tmps) = b := by
  unfold wantW at hw
  split at hw
  · next hg => cases hw; simp [Region.wanted, hg]
  · next j wt hg =>
    split at hw
    · cases hw
    · next d hd =>
      split at hw
      · next q hq =>
        cases hw
        have hy := h.yielded_b hd hq
        simp [Region.wanted, hg, hy]
      · next l hq =>
        cases hw
        have hy := h.yielded_not hd hq
        simp [Region.wanted, hg, hy]
      · cases hw
end

section
variable (P : Program) (H : WH)

def deferW (tm : TW) (c : Call) : Option DW := match c.callee with
  | .value f => match evW tm f with
    | .fn g caps => some (.call g (c.args.toList.map (evW tm)) caps)
    | _ => none
  | _ => none
def deferOp : Op → Option Call
  | .defer c => some c
  | _ => none

/-- The operations of a region, in the order of the text. free: outside a round. -/
def xopsW (free : Bool) (sz : Nat) (all : List Oper) : List Oper → Nat → TW → SB → List DW → Option (TW × SB × Nat × List DW)
  | [], top, tm, st, ds => some (tm, st, top, ds)
  | o :: os, top, tm, st, ds => match okDst sz o.dst with
    | false => none
    | true => match wantW all tm o.guard with
      | none => none
      | some false => xopsW free sz all os top (putW tm o.dst vS) st ds
      | some true => match deferOp o.op with
        | some c => match free, deferW tm c with
          | true, some d => xopsW free sz all os top (putW tm o.dst vS) st (d :: ds)
          | _, _ => none
        | none => match xstep P H top (top + 1) tm st o with
          | none => none
          | some (v, us, rs, top') => kN top' fun top' => xopsW free sz all os top' (putW tm o.dst v) (us ++ st) ds

/-- Is a step ordered behind another, through others between? -/
def behindB (ops : Array Oper) (j : Nat) : Nat → Oper → Bool
  | 0, _ => false
  | n + 1, o => o.after.any fun e => Region.binds .any e && (e.on == j || (Nat.ble (j + 1) e.on && match ops[e.on]? with
    | some o' => behindB ops j n o'
    | none => false))

/-- Has a step nothing in common with those before it that it is not ordered behind? -/
def indepM (ops : Array Oper) (o : Oper) (rs ws : List Nat) (call : Bool) (prev : List (Nat × Oper × List Nat × List Nat × Bool)) : Bool :=
  prev.all fun (j, oj, rj, wj, cj) => (o.after.any fun e => Region.binds .any e && e.on == j) ||
    (oj.apart ops o && (wj.all fun b => !memN rs b && !memN ws b) && (ws.all fun b => !memN rj b) && !(cj && call)) || behindB ops j 5 o

/-- The operations of a region whose order is open, in the order of the text. -/
def xopsO (sz : Nat) (ops : Array Oper) (nx : Nat) : List Oper → Nat → Nat → TW → SB → List (Nat × Oper × List Nat × List Nat × Bool) → Option (TW × SB × Nat)
  | [], _, top, tm, st, _ => some (tm, st, top)
  | o :: os, i, top, tm, st, prev => match okDst sz o.dst with
    | false => none
    | true => match wantW ops.toList tm o.guard with
      | none => none
      | some false => match indepM ops o [] [] false prev with
        | false => none
        | true => xopsO sz ops nx os (i + 1) top (putW tm o.dst vS) st ((i, o, [], [], false) :: prev)
      | some true => match deferOp o.op with
        | some _ => none
        | none => match xstep P H (nx + i) top tm st o with
          | none => none
          | some (v, us, rs, top') => match indepM ops o rs (us.map (·.1)) (isCallO o.op) prev with
            | false => none
            | true => kN top' fun top' => xopsO sz ops nx os (i + 1) top' (putW tm o.dst v) (us ++ st) ((i, o, rs, us.map (·.1), isCallO o.op) :: prev)
end

theorem deferOp_none {o : Oper} (h : deferOp o.op = none) : ∀ c, o.op ≠ .defer c := by
  intro c e
  rw [e] at h; cases h
theorem deferOp_some {o : Oper} {c : Call} (h : deferOp o.op = some c) : o.op = .defer c := by
  unfold deferOp at h
  split at h
  · next e => cases h; exact e
  · cases h

section
variable {P : Program} {H : WH}

theorem xopsW_sound (hH : HOK P H) {FF : Fence} (hW : Wide FF) {O : Nat → Prop} {w0 : World} {M0 : MM} {N0 : Nat} {free : Bool} (hfree : free = true → FF.round = none) {sz : Nat} {ops : Array Oper} {Q : Exit → Act → World → Prop} {tm' : TW} {st' : SB} {nx' : Nat} {ds' : List DW}
    (hn : ∀ m' a' w', RelM O w0 M0 N0 (fun b => nx' ≤ b) m' sz tm' st' a' w' → RDs m' ds' a'.defers → Q .normal a' w') :
    ∀ (l : List Oper) (k : Nat) (top : Nat) (m : MM) (tm : TW) (st : SB) (ds : List DW) (a : Act) (w : World), ops.toList.drop k = l → RelM O w0 M0 N0 (fun b => top ≤ b) m sz tm st a w → RDs m ds a.defers →
      xopsW P H free sz ops.toList l top tm st ds = some (tm', st', nx', ds') → wpOpsIn FF 0 P ops Q ((List.range ops.size).drop k) a w
  | [], k, top, m, tm, st, ds, a, w, hl, h, hD, hg => by
    have hk : ops.size ≤ k := by
      have := congrArg List.length hl
      simp at this
      omega
    rw [List.drop_of_length_le (by simpa using hk)]
    cases hg
    exact hn m a w h hD
  | o :: l, k, top, m, tm, st, ds, a, w, hl, h, hD, hg => by
    have hk : k < ops.size := by
      have := congrArg List.length hl
      simp at this
      omega
    have ho : ops[k]? = some o := by
      have : (ops.toList.drop k)[0]? = some o := by rw [hl]; rfl
      rw [List.getElem?_drop, Nat.add_zero, Array.getElem?_toList] at this
      exact this
    have hl' : ops.toList.drop (k + 1) = l := by
      rw [← List.drop_drop, hl]; rfl
    have hr : (List.range ops.size).drop k = k :: (List.range ops.size).drop (k + 1) := by
      rw [List.drop_eq_getElem_cons (by simpa using hk)]
      simp
    rw [hr]
    simp only [wpOpsIn, ho]
    simp only [xopsW] at hg
    split at hg
    · cases hg
    · next hd =>
      split at hg
      · cases hg
      · next hw =>
        have hw' := h.wanted hw
        rw [if_neg (by rw [hw']; simp)]
        exact ⟨fun f _ => hW.fn f, xopsW_sound hH hW hfree hn l (k + 1) top m _ st ds _ w hl' (h.put hd RW_vS) (by rw [put_defers]; exact hD) hg⟩
      · next hw =>
        have hw' := h.wanted hw
        rw [if_pos hw']
        split at hg
        · next c hc =>
          have hdo := deferOp_some hc
          split at hg
          · next d hdw =>
            have hro := hfree rfl
            unfold deferW at hdw
            split at hdw
            · next f hf =>
              split at hdw
              · next g caps hcf =>
                cases hdw
                have hfr := h.ev f
                rw [hcf] at hfr
                obtain ⟨arr, hf', hcaps⟩ := hfr
                have hargs := args_d (m := m) (tm := tm) (a := a) (l := c.args.toList) fun x _ => h.ev x
                have hrun : (execOp a.eval o).run P w = .ok (.defer { target := .fn (.func g) arr, args := #[] ++ c.args.map a.eval }) w := by
                  simp [execOp, hdo, resolve, hf, Deferred.ofValue, hf']
                refine ⟨fun f _ => hW.fn f, ?_⟩
                have hsem : o.semAt FF.round a.eval = execOp a.eval o := by rw [hro]; rfl
                rw [hsem, hrun]
                refine xopsW_sound hH hW hfree hn l (k + 1) top m _ st _ _ w hl' ?_ ?_ hg
                · exact (h.act (a' := { a with defers := _ :: a.defers }) h.htm h.hsz).put hd RW_vS
                · rw [put_defers]
                  refine ⟨⟨c.args.toList.map a.eval, arr.toList, ?_, hargs, hcaps⟩, hD⟩
                  have e : (#[] ++ c.args.map a.eval : Array Value) = (c.args.toList.map a.eval).toArray := by apply Array.ext'; simp
                  simp [e]
              · cases hdw
            · cases hdw
          · cases hg
        · next hnd =>
          split at hg
          · cases hg
          · next v us rs top1 hx =>
            rw [kN_eq] at hg
            obtain ⟨htt, hnc, hok⟩ := xstep_ok (ops := ops) hH hd hx
            refine hok tm st (fun _ _ => rfl) (fun _ _ => rfl) O w0 M0 N0 _ m a w _ Q h (Nat.le_refl _) (fun _ b hb => by omega) (fun m1 a1 w1 hR hmm hde => ?_) FF hW
            refine xopsW_sound hH hW hfree hn l (k + 1) top1 m1 _ _ ds _ w1 hl' (hR.weakU fun b hb => ⟨by omega, by omega, fun _ _ => hb⟩) (by rw [hde]; exact hD.mono hmm) hg

/-- A step of a region whose order is open: what it reads, writes, its value; is it a call; the new numbers before and after. -/
structure FPt where
  rs : List Nat
  us : SB
  v : W
  call : Bool
  tin : Nat
  tout : Nat

def DoneM (P : Program) (sz : Nat) (ops : Array Oper) (nx i : Nat) (o : Oper) (tm : TW) (L : Nat → Option B) (f : FPt) : Prop :=
  f.call = isCallO o.op ∧ StepOK P sz ops o (nx + i) f.tin tm L f.rs f.us f.v f.tout
def SkipM (f : FPt) : Prop := f.rs = [] ∧ f.us = [] ∧ f.v = vS ∧ f.call = false

def stepM (P : Program) (sz : Nat) (ops : Array Oper) (nx i : Nat) (o : Oper) (tm : TW) (L : Nat → Option B) (f : FPt) : Prop :=
  okDst sz o.dst = true ∧ match o.guard with
    | none => DoneM P sz ops nx i o tm L f
    | some (j, want) => ∃ d, (ops.toList[j]?).bind (·.dst) = some d ∧ ((∃ b, (look tm d).getD .top = .v (.bool b) ∧ (if b = want then DoneM P sz ops nx i o tm L f else SkipM f)) ∨ ((∃ l, (look tm d).getD .top = .tup l) ∧ SkipM f))

def TrM (P : Program) (sz : Nat) (ops : Array Oper) (nx : Nat) : List (Nat × Oper) → TW → SB → List FPt → Prop
  | [], _, _, [] => True
  | (i, o) :: l, tm, st, f :: fs => stepM P sz ops nx i o tm (look st) f ∧ TrM P sz ops nx l (putW tm o.dst f.v) (f.us ++ st) fs
  | _, _, _, _ => False

def endTw : List (Nat × Oper) → TW → List FPt → TW
  | (_, o) :: l, tm, f :: fs => endTw l (putW tm o.dst f.v) fs
  | _, tm, _ => tm
def endSb : List FPt → SB → SB
  | f :: fs, st => endSb fs (f.us ++ st)
  | [], st => st
def endTop : Nat → List FPt → Nat
  | t, [] => t
  | t, f :: fs => endTop (match f.call with | true => f.tout | false => t) fs
def ChainM : Nat → List FPt → Prop
  | _, [] => True
  | t, f :: fs => (f.call = true → t ≤ f.tin ∧ f.tin ≤ f.tout) ∧ ChainM (match f.call with | true => f.tout | false => t) fs

theorem chain_first {f : FPt} {f2 : List FPt} : ∀ {f1 : List FPt} {t : Nat}, (∀ g ∈ f1, f.call = false ∨ g.call = false) → ChainM t (f1 ++ f :: f2) → ChainM t (f :: (f1 ++ f2)) ∧ endTop t (f :: (f1 ++ f2)) = endTop t (f1 ++ f :: f2)
  | [], t, _, h => ⟨h, rfl⟩
  | g :: f1, t, hf, h => by
    obtain ⟨h1, h2⟩ := h
    obtain ⟨⟨q1, q2⟩, q3⟩ := chain_first (fun x hx => hf x (List.mem_cons_of_mem _ hx)) h2
    simp only [List.cons_append, endTop] at q3 ⊢
    rcases hf g List.mem_cons_self with e | e
    · simp only [e] at q2 q3 ⊢
      exact ⟨⟨fun e' => (by rw [e] at e'; cases e'), by rw [e]; exact ⟨h1, q2⟩⟩, q3⟩
    · simp only [e] at q1 q2 q3 ⊢
      refine ⟨⟨q1, ⟨fun e' => (by rw [e] at e'; cases e'), by rw [e]; exact q2⟩⟩, q3⟩

theorem stepM_congr {sz : Nat} {ops : Array Oper} {nx i : Nat} {o : Oper} {tm tm' : TW} {L L' : Nat → Option B} {f : FPt} (h : stepM P sz ops nx i o tm L f)
    (ht : ∀ t ∈ o.looksAt ops, look tm' t = look tm t) (hL : ∀ b ∈ f.rs, L' b = L b) : stepM P sz ops nx i o tm' L' f := by
  have done : DoneM P sz ops nx i o tm L f → DoneM P sz ops nx i o tm' L' f := fun ⟨h1, h2⟩ => ⟨h1, fun tm2 st2 e1 e2 => h2 tm2 st2 (fun t hm => (e1 t hm).trans (ht t hm)) (fun b hb => (e2 b hb).trans (hL b hb))⟩
  obtain ⟨h1, h2⟩ := h
  refine ⟨h1, ?_⟩
  cases hg : o.guard with
  | none =>
    rw [hg] at h2
    exact done h2
  | some q =>
    obtain ⟨j, want⟩ := q
    rw [hg] at h2
    simp only at h2 ⊢
    obtain ⟨d, e1, e23⟩ := h2
    have hd : look tm' d = look tm d := by
      rw [ht d]
      unfold Oper.looksAt
      refine List.mem_append.2 (.inr ?_)
      rw [hg]
      rw [Array.getElem?_toList] at e1
      simp [e1]
    refine ⟨d, e1, ?_⟩
    rw [hd]
    rcases e23 with ⟨b, e2, e3⟩ | e2
    · refine .inl ⟨b, e2, ?_⟩
      split
      · next hb => rw [if_pos hb] at e3; exact done e3
      · next hb => rw [if_neg hb] at e3; exact e3
    · exact .inr e2

theorem Eqv.putW {s t : TW} (h : Eqv s t) (d : Option Nat) (v : W) : Eqv (putW s d v) (putW t d v) := by
  cases d with
  | none => exact h
  | some i => intro j; simp only [Mi.putW, look_cons, h j]

theorem TrM_congr {sz : Nat} {ops : Array Oper} {nx : Nat} : ∀ {l : List (Nat × Oper)} {tm tm' : TW} {st st' : SB} {fs : List FPt}, TrM P sz ops nx l tm st fs → Eqv tm' tm → Eqv st' st →
    TrM P sz ops nx l tm' st' fs ∧ Eqv (endTw l tm' fs) (endTw l tm fs) ∧ Eqv (endSb fs st') (endSb fs st)
  | [], tm, tm', st, st', [], h, e1, e2 => ⟨trivial, e1, e2⟩
  | [], _, _, _, _, _ :: _, h, _, _ => h.elim
  | _ :: _, _, _, _, _, [], h, _, _ => by simp [TrM] at h
  | (i, o) :: l, tm, tm', st, st', f :: fs, ⟨h1, h2⟩, e1, e2 => by
    obtain ⟨q1, q2, q3⟩ := TrM_congr h2 (Eqv.putW e1 o.dst f.v) (e2.cons f.us)
    exact ⟨⟨stepM_congr h1 (fun t _ => e1 t) (fun b _ => e2 b), q1⟩, q2, q3⟩

/-- Two steps that have nothing in common. -/
def IndepM (ops : Array Oper) (x y : Oper) (f g : FPt) : Prop :=
  x.apart ops y = true ∧ (∀ b ∈ f.us.map (·.1), b ∉ g.rs ∧ b ∉ g.us.map (·.1)) ∧ (∀ b ∈ g.us.map (·.1), b ∉ f.rs) ∧ (g.call = false ∨ f.call = false)

theorem look_putW_ne {tm : TW} {d : Option Nat} {v : W} {t : Nat} (h : d ≠ some t) : look (putW tm d v) t = look tm t := by
  cases d with
  | none => rfl
  | some i => rw [putW, look_cons, if_neg (fun e => h (by rw [e]))]

/-- A step that is independent of those before it can be taken first. -/
theorem TrM_first {sz : Nat} {ops : Array Oper} {nx : Nat} : ∀ {l1 l2 : List (Nat × Oper)} {i : Nat} {o : Oper} {tm : TW} {st : SB} {f1 f2 : List FPt} {f : FPt}, l1.length = f1.length → TrM P sz ops nx (l1 ++ (i, o) :: l2) tm st (f1 ++ f :: f2) →
    (∀ (k : Nat) (p : Nat × Oper) (g : FPt), l1[k]? = some p → f1[k]? = some g → IndepM ops p.2 o g f) →
    TrM P sz ops nx ((i, o) :: (l1 ++ l2)) tm st (f :: (f1 ++ f2)) ∧ Eqv (endTw ((i, o) :: (l1 ++ l2)) tm (f :: (f1 ++ f2))) (endTw (l1 ++ (i, o) :: l2) tm (f1 ++ f :: f2)) ∧
      Eqv (endSb (f :: (f1 ++ f2)) st) (endSb (f1 ++ f :: f2) st)
  | [], l2, i, o, tm, st, [], f2, f, _, h, _ => ⟨h, fun _ => rfl, fun _ => rfl⟩
  | [], _, _, _, _, _, _ :: _, _, _, hl, _, _ => by simp at hl
  | _ :: _, _, _, _, _, _, [], _, _, hl, _, _ => by simp at hl
  | (j, oj) :: l1, l2, i, o, tm, st, g :: f1, f2, f, hl, h, hi => by
    obtain ⟨h1, h2⟩ := h
    obtain ⟨q1, q2, q3⟩ := TrM_first (by simpa using hl) h2 (fun k p g hp hg => hi (k + 1) p g (by simpa using hp) (by simpa using hg))
    obtain ⟨q4, q5⟩ := q1
    obtain ⟨i1, i2, i3, _⟩ := hi 0 _ _ rfl rfl
    obtain ⟨a1, a2, a3⟩ := Oper.apart_spec i1
    simp only at i2 i3 a1 a2 a3
    have e1 : stepM P sz ops nx i o tm (look st) f := stepM_congr q4 (fun t ht => by
      rw [look_putW_ne]
      intro e
      exact a1 t e ht) (fun b hb => by
      rw [look_append, look_none (fun hm => (i2 b hm).1 hb)]; rfl)
    have e2 : stepM P sz ops nx j oj (putW tm o.dst f.v) (look (f.us ++ st)) g := stepM_congr h1 (fun t ht => look_putW_ne fun e => a3 t e ht) (fun b hb => by
      rw [look_append, look_none (fun hm => i3 b hm hb)]; rfl)
    have et : Eqv (putW (putW tm o.dst f.v) oj.dst g.v) (putW (putW tm oj.dst g.v) o.dst f.v) := by
      intro t
      by_cases c1 : oj.dst = some t
      · have c2 : o.dst ≠ some t := a2 t c1
        rw [look_putW_ne c2, c1]
        simp only [putW, look_cons, if_true]
      · rw [look_putW_ne c1]
        by_cases c2 : o.dst = some t
        · rw [c2]; simp only [putW, look_cons, if_true]
        · rw [look_putW_ne c2, look_putW_ne c2, look_putW_ne c1]
    have es : Eqv (g.us ++ (f.us ++ st)) (f.us ++ (g.us ++ st)) := by
      intro b
      rw [look_append, look_append, look_append, look_append]
      by_cases c1 : b ∈ g.us.map (·.1)
      · rw [look_none (us := f.us) (i2 b c1).2]; simp
      · rw [look_none c1]; simp
    obtain ⟨t1, t2, t3⟩ := TrM_congr q5 et es
    exact ⟨⟨e1, e2, t1⟩, fun t => (t2 t).trans (q2 t), fun b => (t3 b).trans (q3 b)⟩

/-- A step is ordered behind another. -/
inductive BehindM (ops : Array Oper) (i : Nat) : Oper → Prop where
  | direct {o : Oper} (e : Edge) : e ∈ o.after → Region.binds .any e = true → e.on = i → BehindM ops i o
  | via {o o' : Oper} (e : Edge) : e ∈ o.after → Region.binds .any e = true → ops[e.on]? = some o' → BehindM ops i o' → BehindM ops i o

theorem behindB_spec {ops : Array Oper} {j : Nat} : ∀ (n : Nat) (o : Oper), behindB ops j n o = true → BehindM ops j o
  | 0, _, h => by cases h
  | n + 1, o, h => by
    unfold behindB at h
    rw [Array.any_eq_true] at h
    obtain ⟨q, hq, hb⟩ := h
    simp only [Bool.and_eq_true, Bool.or_eq_true, beq_iff_eq] at hb
    obtain ⟨hb, h1 | ⟨_, h2⟩⟩ := hb
    · exact .direct _ (Array.getElem_mem hq) hb h1
    · split at h2
      · next o' ho => exact .via _ (Array.getElem_mem hq) hb ho (behindB_spec n o' h2)
      · cases h2

theorem behind_listed {ops : Array Oper} {listed : Array Bool} (hcl : ∀ j o', ops[j]? = some o' → listed.getD j true = true → ∀ e ∈ o'.after, Region.binds .any e = true → listed.getD e.on true = true) {j : Nat} {o : Oper} (h : BehindM ops j o)
    (ho : ∀ e ∈ o.after, Region.binds .any e = true → listed.getD e.on true = true) : listed.getD j true = true := by
  induction h with
  | direct e he hb hj => subst hj; exact ho e he hb
  | via e he hb ho' _ ih => exact ih fun e' he' hb' => hcl _ _ ho' (ho e he hb) e' he' hb'

theorem set_listed {listed : Array Bool} {i k : Nat} (h : listed.getD k true = true) : (listed.setIfInBounds i true).getD k true = true := by
  by_cases hk : i = k
  · subst hk
    rw [Array.getD_eq_getD_getElem?, Array.getElem?_setIfInBounds]
    simp
    split <;> rfl
  · rw [Array.getD_eq_getD_getElem?, Array.getElem?_setIfInBounds_ne hk, ← Array.getD_eq_getD_getElem?]
    exact h

/-- Ordered, or independent. -/
def FreeM (ops : Array Oper) (p q : Nat × Oper) (f g : FPt) : Prop := BehindM ops p.1 q.2 ∨ IndepM ops p.2 q.2 f g

theorem memN_mem {b : Nat} : ∀ {l : List Nat}, b ∈ l → memN l b = true
  | [], h => by cases h
  | c :: l, h => by
    rw [memN_cons]
    rcases List.mem_cons.1 h with rfl | h
    · simp
    · rw [memN_mem h]; simp

theorem indepM_spec {ops : Array Oper} {i : Nat} {o : Oper} {prev : List (Nat × Oper × List Nat × List Nat × Bool)} {f g : FPt} (h : indepM ops o g.rs (g.us.map (·.1)) g.call prev = true) {j : Nat} {oj : Oper}
    (hm : (j, oj, f.rs, f.us.map (·.1), f.call) ∈ prev) : FreeM ops (j, oj) (i, o) f g := by
  have := List.all_eq_true.1 h _ hm
  simp only [Bool.or_eq_true, Bool.and_eq_true, List.all_eq_true, Bool.not_eq_true'] at this
  rcases this with (h5 | ⟨⟨⟨h5, h6⟩, h7⟩, h8⟩) | h5
  rotate_left 2
  · exact .inl (behindB_spec _ _ h5)
  · left
    rw [Array.any_eq_true] at h5
    obtain ⟨q, hq, hb⟩ := h5
    simp only [Bool.and_eq_true, beq_iff_eq] at hb
    exact .direct _ (Array.getElem_mem hq) hb.1 hb.2
  · right
    refine ⟨h5, fun b hb => ?_, fun b hb => ?_, ?_⟩
    · have := h6 b hb
      exact ⟨fun e => (by rw [memN_mem e] at this; cases this.1), fun e => (by rw [memN_mem e] at this; cases this.2)⟩
    · have := h7 b hb
      exact fun e => (by rw [memN_mem e] at this; cases this)
    · cases e1 : f.call <;> cases e2 : g.call <;> simp_all

def TrExM (P : Program) (sz : Nat) (ops : Array Oper) (nx : Nat) (tmE : TW) (stE : SB) (topE : Nat) (os : List Oper) (i top : Nat) (tm : TW) (st : SB) (prev : List (Nat × Oper × List Nat × List Nat × Bool)) : Prop :=
    ∃ fs : List FPt, fs.length = os.length ∧ TrM P sz ops nx (enumL i os) tm st fs ∧ (endTw (enumL i os) tm fs = tmE ∧ endSb fs st = stE ∧ endTop top fs = topE ∧ ChainM top fs ∧ top ≤ topE) ∧
      (∀ (a b : Nat) (p q : Nat × Oper) (f g : FPt), a < b → (enumL i os)[a]? = some p → (enumL i os)[b]? = some q → fs[a]? = some f → fs[b]? = some g → FreeM ops p q f g) ∧
      (∀ (b : Nat) (q : Nat × Oper) (f g : FPt) (j : Nat) (oj : Oper), (j, oj, f.rs, f.us.map (·.1), f.call) ∈ prev → (enumL i os)[b]? = some q → fs[b]? = some g → FreeM ops (j, oj) q f g)

theorem wantW_br {all : List Oper} {tm : TW} {o : Oper} {b : Bool} (hw : wantW all tm o.guard = some b) : (o.guard = none ∧ b = true) ∨ (∃ j wt d q, o.guard = some (j, wt) ∧ (all[j]?).bind (·.dst) = some d ∧ (look tm d).getD .top = .v (.bool q) ∧ b = (q == wt)) ∨ (b = false ∧ ∃ j wt d l, o.guard = some (j, wt) ∧ (all[j]?).bind (·.dst) = some d ∧ (look tm d).getD .top = .tup l) := by
  unfold wantW at hw
  split at hw
  · next hg => cases hw; exact .inl ⟨hg, rfl⟩
  · next j wt hg =>
    split at hw
    · cases hw
    · next d hd =>
      split at hw
      · next q hq => cases hw; exact .inr (.inl ⟨j, wt, d, q, hg, hd, hq, rfl⟩)
      · next l hq => cases hw; exact .inr (.inr ⟨rfl, j, wt, d, l, hg, hd, hq⟩)
      · cases hw

theorem xopsO_tr (hH : HOK P H) {sz : Nat} {ops : Array Oper} {nx : Nat} {tmE : TW} {stE : SB} {topE : Nat} : ∀ (os : List Oper) (i top : Nat) (tm : TW) (st : SB) (prev : List (Nat × Oper × List Nat × List Nat × Bool)),
    xopsO P H sz ops nx os i top tm st prev = some (tmE, stE, topE) → TrExM P sz ops nx tmE stE topE os i top tm st prev
  | [], i, top, tm, st, prev, h => by cases h; exact ⟨[], rfl, trivial, ⟨rfl, rfl, rfl, trivial, Nat.le_refl _⟩, by simp [enumL], by simp [enumL]⟩
  | o :: os, i, top, tm, st, prev, h => by
    simp only [xopsO] at h
    split at h
    · cases h
    · next hd =>
      have main : ∀ (f : FPt) (top1 : Nat), stepM P sz ops nx i o tm (look st) f → (f.call = true → top ≤ f.tin ∧ f.tin ≤ f.tout) → top1 = (match f.call with | true => f.tout | false => top) → indepM ops o f.rs (f.us.map (·.1)) f.call prev = true →
          xopsO P H sz ops nx os (i + 1) top1 (putW tm o.dst f.v) (f.us ++ st) ((i, o, f.rs, f.us.map (·.1), f.call) :: prev) = some (tmE, stE, topE) →
          TrExM P sz ops nx tmE stE topE (o :: os) i top tm st prev := by
        intro f top1 hs hc ht hind hm
        obtain ⟨fs, q1, q2, ⟨q3, q3b, q3c, q3d, q3e⟩, q4, q5⟩ := xopsO_tr hH os (i + 1) _ _ _ _ hm
        refine ⟨f :: fs, by simp [q1], ⟨hs, q2⟩, ⟨q3, q3b, by simp only [endTop]; rw [← ht]; exact q3c, ⟨hc, by rw [← ht]; exact q3d⟩, ?_⟩, ?_, ?_⟩
        · refine Nat.le_trans ?_ q3e
          rw [ht]
          cases hcc : f.call with
          | true => have := hc hcc; simp only; omega
          | false => exact Nat.le_refl _
        · intro a b p q f' g hab hp hq hf hg
          cases b with
          | zero => omega
          | succ b =>
            simp only [enumL, List.getElem?_cons_succ] at hq hg
            cases a with
            | zero =>
              simp only [enumL, List.getElem?_cons_zero, Option.some.injEq] at hp hf
              subst hp hf
              exact q5 b q f g i o (by simp) hq hg
            | succ a =>
              simp only [enumL, List.getElem?_cons_succ] at hp hf
              exact q4 a b p q f' g (by omega) hp hq hf hg
        · intro b q f' g j oj hmem hq hg
          cases b with
          | zero =>
            simp only [enumL, List.getElem?_cons_zero, Option.some.injEq] at hq hg
            subst hq hg
            exact indepM_spec hind hmem
          | succ b =>
            simp only [enumL, List.getElem?_cons_succ] at hq hg
            exact q5 b q f' g j oj (by simp [hmem]) hq hg
      split at h
      · cases h
      · next hw =>
        split at h
        · cases h
        · next hind =>
          refine main ⟨[], [], vS, false, top, top⟩ top ⟨hd, ?_⟩ (fun e => by cases e) rfl hind h
          rcases wantW_br hw with ⟨_, hb⟩ | ⟨j, wt, d, q, hg, hdj, hq, hb⟩ | ⟨_, j, wt, d, l, hg, hdj, hq⟩
          · cases hb
          · rw [hg]
            refine ⟨d, hdj, .inl ⟨q, hq, ?_⟩⟩
            rw [if_neg (by rintro rfl; simp at hb)]
            exact ⟨rfl, rfl, rfl, rfl⟩
          · rw [hg]
            exact ⟨d, hdj, .inr ⟨⟨l, hq⟩, rfl, rfl, rfl, rfl⟩⟩
      · next hw =>
        split at h
        · cases h
        · split at h
          · cases h
          · next v us rs top' hx =>
            split at h
            · cases h
            · next hind =>
              rw [kN_eq] at h
              obtain ⟨htt, hnc, hok⟩ := xstep_ok (ops := ops) hH hd hx
              refine main ⟨rs, us, v, isCallO o.op, top, top'⟩ top' ⟨hd, ?_⟩ (fun _ => ⟨Nat.le_refl _, htt⟩) ?_ hind h
              · rcases wantW_br hw with ⟨hg, _⟩ | ⟨j, wt, d, q, hg, hdj, hq, hb⟩ | ⟨hb, _⟩
                · rw [hg]; exact ⟨rfl, hok⟩
                · rw [hg]
                  refine ⟨d, hdj, .inl ⟨q, hq, ?_⟩⟩
                  rw [if_pos (by simpa using hb.symm)]
                  exact ⟨rfl, hok⟩
                · cases hb
              · simp only
                cases hc : isCallO o.op with
                | true => rfl
                | false => exact hnc hc

/-- What is left to be done, while some are done. -/
structure LeftW (ops : Array Oper) (listed : Array Bool) (l : List (Nat × Oper)) (fs : List FPt) : Prop where
  len : l.length = fs.length
  mem : ∀ i o, (i, o) ∈ l → ops[i]? = some o ∧ listed.getD i true = false
  all : ∀ i o, ops[i]? = some o → listed.getD i true = false → (i, o) ∈ l
  asc : l.Pairwise (fun p q => p.1 < q.1)
  free : ∀ (a b : Nat) (p q : Nat × Oper) (f g : FPt), a < b → l[a]? = some p → l[b]? = some q → fs[a]? = some f → fs[b]? = some g → FreeM ops p q f g
  size : listed.size = ops.size
  closed : ∀ j o', ops[j]? = some o' → listed.getD j true = true → ∀ e ∈ o'.after, Region.binds .any e = true → listed.getD e.on true = true

theorem anyOrderM {FF : Fence} (hW : Wide FF) {sz : Nat} {ops : Array Oper} {nx : Nat} (hahead : ∀ i o, ops[i]? = some o → ∀ e ∈ o.after, Region.binds .any e = true → e.on < i) {O : Nat → Prop} {w0 : World} {M0 : MM} {N0 : Nat} {ds : List DW} {Q : Exit → Act → World → Prop} {tmE : TW} {stE : SB} {topE : Nat} (hsE : nx + ops.size ≤ topE)
    (hend : ∀ m a w, RelM O w0 M0 N0 (fun b => topE ≤ b) m sz tmE stE a w → RDs m ds a.defers → Q .normal a w) :
    ∀ (n : Nat) (listed : Array Bool) (l : List (Nat × Oper)) (fs : List FPt) (tc : Nat) (m : MM) (tm : TW) (st : SB) (a : Act) (w : World), l.length = n → LeftW ops listed l fs →
      RelM O w0 M0 N0 (fun b => (nx ≤ b ∧ (b < nx + ops.size → listed.getD (b - nx) true = false)) ∧ (nx + ops.size ≤ b → tc ≤ b)) m sz tm st a w → RDs m ds a.defers → TrM P sz ops nx l tm st fs → nx + ops.size ≤ tc → ChainM tc fs → endTop tc fs = topE →
      Eqv (endTw l tm fs) tmE → Eqv (endSb fs st) stE →
      wpAnyIn FF 0 P .any ops Q n listed a w
  | 0, listed, l, fs, tc, m, tm, st, a, w, hn, hL, h, hD, ht, htc, hch, hte, e1, e2 => by
    obtain rfl : l = [] := List.eq_nil_of_length_eq_zero hn
    obtain rfl : fs = [] := List.eq_nil_of_length_eq_zero (by rw [← hL.len]; rfl)
    have hr : Region.ready .any ops listed = [] := by
      cases hr : Region.ready .any ops listed with
      | nil => rfl
      | cons i rs =>
        obtain ⟨h1, o, ho, _⟩ := mem_ready.1 (show i ∈ Region.ready .any ops listed by rw [hr]; simp)
        cases hL.all i o ho h1
    have hte : tc = topE := hte
    exact ⟨hr, hend m a w (((h.congrT fun j => (e1 j).symm).congr fun j => (e2 j).symm).weakU fun b hb => ⟨⟨by omega, fun hb2 => by omega⟩, fun _ => by omega⟩) hD⟩
  | n + 1, listed, l, fs, tc, m, tm, st, a, w, hn, hL, h, hD, ht, htc, hch, hte, e1, e2 => by
    refine ⟨fun hr => ?_, fun i hi => ?_⟩
    · -- some operation is ready
      exfalso
      match l, hn with
      | (i, o) :: l, _ =>
        obtain ⟨ho, hlist⟩ := hL.mem i o (by simp)
        have : i ∈ Region.ready .any ops listed := by
          refine mem_ready.2 ⟨hlist, o, ho, fun e he hb => ?_⟩
          have hlt := hahead i o ho e he hb
          have hi : i < ops.size := (Array.getElem?_eq_some_iff.1 ho).1
          have hel : e.on < listed.size := by rw [hL.size]; omega
          rw [getD_of_lt hel false true]
          cases hc : listed.getD e.on true with
          | true => rfl
          | false =>
            have hm := hL.all e.on ops[e.on] (by simp) hc
            have hasc := hL.asc
            simp only [List.pairwise_cons] at hasc
            rcases List.mem_cons.1 hm with hm | hm
            · have := congrArg Prod.fst hm; simp only at this; omega
            · have := hasc.1 _ hm; simp only at this; omega
        rw [hr] at this
        cases this
    · obtain ⟨hlist, o, ho, hpre⟩ := mem_ready.1 hi
      have hmem := hL.all i o ho hlist
      obtain ⟨l1, l2, rfl⟩ := split_at hmem
      obtain ⟨f1, f, f2, rfl, hl1, hl2⟩ := split_same hL.len
      have hi' : i < ops.size := (Array.getElem?_eq_some_iff.1 ho).1
      have hpre' : ∀ e ∈ o.after, Region.binds .any e = true → listed.getD e.on true = true := by
        intro e he hb
        have hjs : e.on < listed.size := by
          rw [hL.size]
          have := hahead i o ho e he hb
          omega
        have := hpre e he hb
        rwa [getD_of_lt hjs false true] at this
      have hind : ∀ (k : Nat) (p : Nat × Oper) (g : FPt), l1[k]? = some p → f1[k]? = some g → IndepM ops p.2 o g f := by
        intro k p g hp hg
        have hk : k < l1.length := (List.getElem?_eq_some_iff.1 hp).1
        have hfree := hL.free k l1.length p (i, o) g f hk (by rw [List.getElem?_append_left hk]; exact hp) (by simp) (by rw [List.getElem?_append_left (by omega)]; exact hg) (by rw [← hl1]; simp)
        rcases hfree with hbe | hind
        · exfalso
          obtain ⟨j, oj⟩ := p
          obtain ⟨_, hj⟩ := hL.mem j oj (List.mem_append.2 (.inl (List.mem_of_getElem? hp)))
          have := behind_listed hL.closed hbe hpre'
          rw [hj] at this
          cases this
        · exact hind
      obtain ⟨q1, q2, q3⟩ := TrM_first hl1.symm ht hind
      obtain ⟨c1, c2⟩ := chain_first (f := f) (f2 := f2) (f1 := f1) (t := tc) (by
        intro g hg
        obtain ⟨k, hk⟩ := List.getElem?_of_mem hg
        have hkl : k < l1.length := by rw [← hl1]; exact (List.getElem?_eq_some_iff.1 hk).1
        exact (hind k _ g (List.getElem?_eq_getElem hkl) hk).2.2.2) hch
      obtain ⟨s1, s2⟩ := q1
      obtain ⟨hd, hs⟩ := s1
      obtain ⟨hcall, hch2⟩ := c1
      -- what is left behind this step
      have hL2 : LeftW ops (listed.setIfInBounds i true) (l1 ++ l2) (f1 ++ f2) := by
        have hne : ∀ j o', (j, o') ∈ l1 ++ l2 → j ≠ i := by
          intro j o' hm
          have hasc := hL.asc
          rw [List.pairwise_append] at hasc
          obtain ⟨_, a2, a3⟩ := hasc
          simp only [List.pairwise_cons] at a2
          rcases List.mem_append.1 hm with hm | hm
          · have := a3 _ hm (i, o) (by simp); simp only at this; omega
          · have := a2.1 _ hm; simp only at this; omega
        refine { len := by simp [hl1, hl2], mem := ?_, all := ?_, asc := ?_, free := ?_, size := by simp [hL.size], closed := ?_ }
        rotate_left 4
        · intro j o' hj hl e he hb
          by_cases hji : j = i
          · subst hji
            rw [ho] at hj; cases hj
            exact set_listed (hpre' e he hb)
          · rw [Array.getD_eq_getD_getElem?, Array.getElem?_setIfInBounds_ne (fun e => hji e.symm), ← Array.getD_eq_getD_getElem?] at hl
            exact set_listed (hL.closed j o' hj hl e he hb)
        · intro j o' hm
          obtain ⟨h1, h2⟩ := hL.mem j o' (by rcases List.mem_append.1 hm with hm | hm <;> simp [hm])
          refine ⟨h1, ?_⟩
          rw [Array.getD_eq_getD_getElem?, Array.getElem?_setIfInBounds_ne (fun e => hne j o' hm e.symm), ← Array.getD_eq_getD_getElem?]
          exact h2
        · intro j o' hj hl
          have hji : j ≠ i := by
            rintro rfl
            simp [Array.getD_eq_getD_getElem?, hL.size, hi'] at hl
          rw [Array.getD_eq_getD_getElem?, Array.getElem?_setIfInBounds_ne (fun e => hji e.symm), ← Array.getD_eq_getD_getElem?] at hl
          have := hL.all j o' hj hl
          rcases List.mem_append.1 this with hm | hm
          · exact List.mem_append.2 (.inl hm)
          · cases hm with
            | head => exact absurd rfl hji
            | tail _ hm => exact List.mem_append.2 (.inr hm)
        · have hasc := hL.asc
          exact hasc.sublist (List.Sublist.append_left (List.sublist_cons_self _ _) _)
        · intro x y p q f' g hxy hp hq hf hg
          -- positions with the step taken out
          have up : ∀ {α : Type} {A B : List α} {c : α} {k : Nat} {z : α}, (A ++ B)[k]? = some z → (A ++ c :: B)[if k < A.length then k else k + 1]? = some z := by
            intro α A B c k z hz
            by_cases hk : k < A.length
            · rw [if_pos hk, List.getElem?_append_left hk]
              rwa [List.getElem?_append_left hk] at hz
            · rw [if_neg hk, List.getElem?_append_right (by omega)]
              rw [List.getElem?_append_right (by omega)] at hz
              have : k + 1 - A.length = k - A.length + 1 := by omega
              rw [this, List.getElem?_cons_succ]
              exact hz
          have hp' := up (c := (i, o)) hp
          have hq' := up (c := (i, o)) hq
          have hf' := up (c := f) hf
          have hg' := up (c := f) hg
          rw [hl1] at hf' hg'
          refine hL.free _ _ p q f' g ?_ hp' hq' hf' hg'
          split <;> split <;> omega
      have hU : ∀ b, (nx ≤ b ∧ (b < nx + ops.size → (listed.setIfInBounds i true).getD (b - nx) true = false)) → (nx ≤ b ∧ (b < nx + ops.size → listed.getD (b - nx) true = false)) ∧ b ≠ nx + i := by
        rintro b ⟨h1, h2⟩
        have hne : b ≠ nx + i := by
          rintro rfl
          have := h2 (by omega)
          rw [show nx + i - nx = i by omega] at this
          simp [Array.getD_eq_getD_getElem?, hL.size, hi'] at this
        refine ⟨⟨h1, fun hb => ?_⟩, hne⟩
        have := h2 hb
        rw [Array.getD_eq_getD_getElem?, Array.getElem?_setIfInBounds_ne (by omega), ← Array.getD_eq_getD_getElem?] at this
        exact this
      have next : ∀ (tc' : Nat) m' a' w', tc' = (match f.call with | true => f.tout | false => tc) → nx + ops.size ≤ tc' → RelM O w0 M0 N0 (fun b => ((nx ≤ b ∧ (b < nx + ops.size → (listed.setIfInBounds i true).getD (b - nx) true = false)) ∧ (nx + ops.size ≤ b → tc' ≤ b))) m' sz (putW tm o.dst f.v) (f.us ++ st) a' w' → RDs m' ds a'.defers →
          wpAnyIn FF 0 P .any ops Q n (listed.setIfInBounds i true) a' w' := by
        intro tc' m' a' w' htc' hge hR hD'
        have hte' : endTop tc (f :: (f1 ++ f2)) = topE := c2.trans hte
        simp only [endTop] at hte'
        rw [← htc'] at hte' hch2
        exact anyOrderM hW hahead hsE hend n _ (l1 ++ l2) (f1 ++ f2) tc' m' _ _ a' w' (by simp at hn ⊢; omega) hL2 hR hD' s2 hge hch2 hte' (fun j => (q2 j).trans (e1 j)) (fun j => (q3 j).trans (e2 j))
      have run : DoneM P sz ops nx i o tm (look st) f → o.wpIn FF 0 P a w (wpAnyIn FF 0 P .any ops Q n (listed.setIfInBounds i true)) Q := by
        rintro ⟨hc, hx⟩
        refine hx tm st (fun _ _ => rfl) (fun _ _ => rfl) O w0 M0 N0 _ m a w _ Q h ⟨⟨by omega, fun _ => by rw [show nx + i - nx = i by omega]; exact hlist⟩, fun hb => by omega⟩ (fun hcl b hb => ?_) (fun m' a' w' hR hmm hde => ?_) FF hW
        · obtain ⟨k1, k2⟩ := hcall (by rw [hc]; exact hcl)
          exact ⟨⟨by omega, fun _ => by omega⟩, fun _ => by omega⟩
        · refine next _ m' a' w' rfl ?_ (hR.weakU fun b hb => ?_) (by rw [hde]; exact hD.mono hmm)
          · cases hcc : f.call with
            | true => have := hcall hcc; simp only; omega
            | false => exact htc
          · obtain ⟨g1, g2⟩ := hU b hb.1
            cases hcc : f.call with
            | true =>
              obtain ⟨k1, k2⟩ := hcall hcc
              have hb2 := hb.2
              rw [hcc] at hb2
              simp only at hb2
              exact ⟨⟨g1, fun e => by have := hb2 e; omega⟩, g2, fun _ e => hb2 (by omega)⟩
            | false =>
              have hb2 := hb.2
              rw [hcc] at hb2
              exact ⟨⟨g1, hb2⟩, g2, fun e => by rw [← hc, hcc] at e; cases e⟩
      have skip : SkipM f → (∀ f', o.about P w a.eval = some f' → FF.fn f') ∧ wpAnyIn FF 0 P .any ops Q n (listed.setIfInBounds i true) (a.put o.dst undef) w := by
        rintro ⟨h1, h2, h3, h4⟩
        refine ⟨fun f _ => hW.fn f, next tc m _ w (by rw [h4]) htc ?_ (by rw [put_defers]; exact hD)⟩
        rw [h2, h3]
        exact (h.weakU fun b hb => ⟨(hU b hb.1).1, hb.2⟩).put hd RW_vS
      unfold wpOpIn
      simp only [ho]
      cases hg : o.guard with
      | none =>
        have hw : Region.wanted o (yielded ops a.tmps) = true := by simp [Region.wanted, hg]
        rw [if_pos hw]
        rw [hg] at hs
        exact run hs
      | some jw =>
        obtain ⟨j, want⟩ := jw
        rw [hg] at hs
        obtain ⟨d, d1, ⟨b, d2, d3⟩ | ⟨⟨arr, d2⟩, d3⟩⟩ := hs
        rotate_left
        · have hy := h.yielded_not d1 d2
          have hw : ¬ Region.wanted o (yielded ops a.tmps) = true := by simp [Region.wanted, hg, hy]
          rw [if_neg hw]
          exact skip d3
        have hy := h.yielded_b d1 d2
        by_cases hbw : b = want
        · have hw : Region.wanted o (yielded ops a.tmps) = true := by simp [Region.wanted, hg, hy, hbw]
          rw [if_pos hw]
          rw [if_pos hbw] at d3
          exact run d3
        · have hw : ¬ Region.wanted o (yielded ops a.tmps) = true := by simp [Region.wanted, hg, hy, hbw]
          rw [if_neg hw]
          rw [if_neg hbw] at d3
          exact skip d3

/-- A REGION WHOSE ORDER IS OPEN. -/
theorem xopsO_sound (hH : HOK P H) {FF : Fence} (hW : Wide FF) (hm : P.follows .mixedOrders = true) {sz : Nat} {ops : Array Oper} {nx : Nat} (hah : aheadB ops.toList = true) {O : Nat → Prop} {w0 : World} {M0 : MM} {N0 : Nat} {ds : List DW} {Q : Exit → Act → World → Prop} {id : Nat}
    {m : MM} {tm : TW} {st : SB} {a : Act} {w : World} (h : RelM O w0 M0 N0 (fun b => nx ≤ b) m sz tm st a w) (hD : RDs m ds a.defers) {tmE : TW} {stE : SB} {topE : Nat} (hx : xopsO P H sz ops nx ops.toList 0 (nx + ops.size) tm st [] = some (tmE, stE, topE))
    (hn : ∀ m' a' w', RelM O w0 M0 N0 (fun b => topE ≤ b) m' sz tmE stE a' w' → RDs m' ds a'.defers → Q .normal a' w') : (Code.region id ops true).wpIn FF 0 P Q a w := by
  obtain ⟨fs, q1, q2, ⟨q3, q3b, q3c, q3d, q3e⟩, q4, _⟩ := xopsO_tr hH ops.toList 0 _ tm st [] hx
  refine wpIn_region_any hm ?_
  refine anyOrderM hW ?_ q3e hn ops.size _ (enumL 0 ops.toList) fs (nx + ops.size) m tm st a _ (by rw [enumL_length]; simp) ?_ ?_ hD q2 (Nat.le_refl _) q3d q3c (fun _ => by rw [q3]) (fun _ => by rw [q3b])
  · intro i o ho e he hb
    have := List.all_eq_true.1 hah (i, o) (enumL_mem.2 ⟨by omega, by simpa using ho⟩)
    simp only [Array.all_eq_true_iff_forall_mem] at this
    have := this e he
    simpa [hb] using this
  · refine { len := by rw [enumL_length, q1], mem := ?_, all := ?_, asc := enumL_asc _ _, free := q4, size := by simp, closed := ?_ }
    rotate_left 2
    · intro j o' hj hl
      have hi : j < ops.size := (Array.getElem?_eq_some_iff.1 hj).1
      simp [Array.getD_eq_getD_getElem?, hi] at hl
    · intro i o hm
      obtain ⟨_, h2⟩ := enumL_mem.1 hm
      have h3 : ops[i]? = some o := by simpa using h2
      have hi : i < ops.size := (Array.getElem?_eq_some_iff.1 h3).1
      exact ⟨h3, by simp [Array.getD_eq_getD_getElem?, hi]⟩
    · intro i o ho _
      exact enumL_mem.2 ⟨by omega, by simpa using ho⟩
  · exact RelM.drew (h.weakU fun b hb => hb.1.1)
end
end
end Go.Ev.Mi
/- The mirror machine: code, functions, rounds of ranges over functions, deferred calls. -/
set_option linter.unusedVariables false
set_option linter.unusedSimpArgs false
namespace Go.Ev.Mi
open Go.RowKit
noncomputable section

structure MS where
  tm : TW
  ds : List DW
  st : SB
  nx : Nat

def tidyTW : Nat → TW → TW
  | 0, _ => []
  | n + 1, tm => match look tm n with
    | some v => kW v fun v => (n, v) :: tidyTW n tm
    | none => tidyTW n tm
/-- The boxes each once. -/
def tidySW : List Nat → SB → SB
  | _, [] => []
  | seen, (b, x) :: st => match memN seen b with
    | true => tidySW seen st
    | false => (b, x) :: tidySW (b :: seen) st
def tidyM (sz : Nat) (s : MS) : MS := ⟨tidyTW sz s.tm, s.ds, tidySW [] s.st, s.nx⟩

/-- A deferred call: function, arguments, boxes, first new number. -/
abbrev WD := FuncId → List W → SB → Nat → Option (SB × Nat)

def xdefF (HD : WD) (g : FuncId) (avs : List W) (st : SB) (top : Nat) : Option (SB × Nat) :=
  let sr := reach st (refsL avs)
  match HD g avs sr top with
  | some (s2, top') => match s2.all fun p => Nat.ble top p.1 || (look sr p.1).isSome with
    | true => some (s2 ++ (deads sr ++ st), top')
    | false => none
  | none => none

def xleaveM (HD : WD) : List DW → SB → Nat → Option (SB × Nat)
  | [], st, top => some (st, top)
  | .mark b :: ds, st, top => match look st b with
    | some (.mark true) => xleaveM HD ds ((b, .mark false) :: st) top
    | _ => none
  | .call g args caps :: ds, st, top => match xdefF HD g (args ++ caps) st top with
    | some (st', top') => xleaveM HD ds st' top'
    | none => none

def xloopM (f : MS → Option (AX × MS)) (sz : Nat) : Nat → MS → Option (AX × MS)
  | 0, _ => none
  | n + 1, s => match f (tidyM sz s) with
    | some (.normal, s') => xloopM f sz n s'
    | some (.exit i, s') => some (.exit i, s')
    | some (.ret, s') => some (.ret, s')
    | none => none

def xenterM (rd : Option Nat) (r : B) (s : MS) : Option MS := match rd with
  | none => some ⟨s.tm, .mark (s.nx + 1) :: s.ds, (s.nx, r) :: (s.nx + 1, .mark true) :: s.st, s.nx + 2⟩
  | some b => match look s.st b with
    | some (.loop _) => some ⟨s.tm, s.ds, (s.nx, r) :: s.st, s.nx + 1⟩
    | _ => none

def isOut (rd : Option Nat) : Bool := match rd with
  | none => true
  | some _ => false

section
variable (P : Program) (H : WH) (HD : WD)

def xcodeM (fuel sz : Nat) (rd : Option Nat) : Code → MS → Option (AX × MS)
  | .skip, s => some (.normal, s)
  | .region _ ops false, s => match xopsW P H (isOut rd) sz ops.toList ops.toList s.nx s.tm s.st s.ds with
    | some (tm, st, nx, ds) => some (.normal, ⟨tm, ds, st, nx⟩)
    | none => none
  | .region _ ops true, s => match aheadB ops.toList with
    | false => none
    | true => kN (s.nx + ops.size) fun t => match xopsO P H sz ops s.nx ops.toList 0 t s.tm s.st [] with
      | some (tm, st, nx) => some (.normal, ⟨tm, s.ds, st, nx⟩)
      | none => none
  | .seq a b, s => match xcodeM fuel sz rd a s with
    | some (.normal, s') => xcodeM fuel sz rd b s'
    | some (.exit i, s') => some (.exit i, s')
    | some (.ret, s') => some (.ret, s')
    | none => none
  | .cond c x y, s => match evW s.tm c with
    | .v (.bool true) => xcodeM fuel sz rd x s
    | .v (.bool false) => xcodeM fuel sz rd y s
    | _ => none
  | .block i c, s => match xcodeM fuel sz rd c s with
    | some (.exit j, s') => match Nat.beq j i with
      | true => some (.normal, s')
      | false => some (.exit j, s')
    | some (.normal, s') => some (.normal, s')
    | some (.ret, s') => some (.ret, s')
    | none => none
  | .loop c, s => xloopM (fun s => xcodeM fuel sz rd c s) sz fuel s
  | .exit i, s => some (.exit i, s)
  | .ret, s => some (.ret, s)
  | .rangeFunc f ps assign body, s =>
    match xenterM rd (.loop ⟨s.tm, sz, ps, assign, body, .ready, none⟩) s with
    | none => none
    | some s1 => match evW s.tm f with
      | .fn g caps => match xcallF H (.fn g caps) [.yld s.nx] s1.st s1.nx with
        | some (_, us, _, nx2) => match look (us ++ s1.st) s.nx with
          | some (.loop r2) => match isBusy r2.state with
            | true => none
            | false => match r2.pending with
              | none => some (.normal, ⟨s.tm, s1.ds, (s.nx, .loop { r2 with state := .exhausted }) :: (us ++ s1.st), nx2⟩)
              | some (.exit i) => some (.exit i, ⟨s.tm, s1.ds, (s.nx, .loop { r2 with state := .exhausted }) :: (us ++ s1.st), nx2⟩)
              | some .ret => some (.ret, ⟨s.tm, s1.ds, (s.nx, .loop { r2 with state := .exhausted }) :: (us ++ s1.st), nx2⟩)
              | _ => none
          | _ => none
        | none => none
      | _ => none
  | _, _ => none

def resOneM (tm : TW) (st : SB) : ResultVar → Option W
  | .tmp t => some ((look tm t).getD .top)
  | .cell a t => match (look tm a).getD .top with
    | .ptr b off => match look st b with
      | some (.cells cs _ _) => match (takeW P t cs off).x [] [] [] with
        | some (v, _) => some v
        | none => none
      | _ => none
    | _ => none
def resAllM (tm : TW) (st : SB) : List ResultVar → Option (List W)
  | [] => some []
  | r :: l => match resOneM P tm st r, resAllM tm st l with
    | some v, some vs => some (v :: vs)
    | _, _ => none
def packM : List W → W
  | [v] => v
  | vs => .tup vs

def startW (args : List W) : TW := (List.range args.length).zip args

def ends (e : AX) : Bool := match e with
  | .exit _ => false
  | _ => true

/-- Boxes that nothing leads to any more are given up, but for those that were handed in. -/
def sweepM (st0 : SB) (r : W) (st : SB) : SB := pickS st (cloW st 100000 (refsW r ++ st0.map (·.1)) [])

/-- A function is entered. -/
def xfnM (fuel : Nat) (fn : Func) (c : Code) (args : List W) (st : SB) (top : Nat) : Option (W × SB × Nat) :=
  match Nat.ble args.length fn.ntmps with
  | false => none
  | true => match xcodeM P H fuel fn.ntmps none c ⟨startW args, [], st, top⟩ with
    | none => none
    | some (e, s) => match ends e with
      | false => none
      | true => match xleaveM HD s.ds s.st s.nx with
        | none => none
        | some (st1, nx1) => match resAllM P s.tm st1 fn.results.toList with
          | none => none
          | some vs => kW (packM vs) fun r => kSB (sweepM st r st1) fun st2 => some (r, st2, nx1)

/-- A deferred function is entered. -/
def xdefM (fuel : Nat) (fn : Func) (c : Code) (args : List W) (st : SB) (top : Nat) : Option (SB × Nat) :=
  match Nat.ble args.length fn.ntmps with
  | false => none
  | true => match xcodeM P H fuel fn.ntmps none c ⟨startW args, [], st, top⟩ with
    | none => none
    | some (e, s) => match ends e, s.ds with
      | true, [] => match resAllM P s.tm s.st fn.results.toList with
        | none => none
        | some _ => kSB (sweepM st .top s.st) fun st2 => some (st2, s.nx)
      | _, _ => none

/-- A round of a range over a function. -/
def xroundM (fuel : Nat) (b : Nat) (args : List W) (st : SB) (top : Nat) : Option (W × SB × Nat) := match look st b with
  | some (.loop r) => match isReady r.state with
    | true => match Nat.beq args.length r.ps.size && r.ps.toList.all fun p => Nat.ble (p + 1) r.sz with
      | false => none
      | true => match xcodeM P H fuel r.sz (some b) r.assign ⟨(r.ps.toList.zip args).foldl (fun t p => p :: t) r.tm, [], st, top⟩ with
        | some (.normal, s1) => match look s1.st b with
          | some (.loop r1) => match isReady r1.state with
            | true => match xcodeM P H fuel r.sz (some b) r.body ⟨s1.tm, s1.ds, (b, .loop { r1 with state := .busy }) :: s1.st, s1.nx⟩ with
              | none => none
              | some (e, s2) => match look s2.st b with
                | some (.loop r2) => match e with
                  | .normal => kSB (sweepM st .top ((b, .loop { r2 with state := .ready, pending := none }) :: s2.st)) fun st2 => some (.v (.bool true), st2, s2.nx)
                  | .exit i => kSB (sweepM st .top ((b, .loop { r2 with state := .done, pending := some (.exit i) }) :: s2.st)) fun st2 => some (.v (.bool false), st2, s2.nx)
                  | .ret => kSB (sweepM st .top ((b, .loop { r2 with state := .done, pending := some .ret }) :: s2.st)) fun st2 => some (.v (.bool false), st2, s2.nx)
                | _ => none
            | false => none
          | _ => none
        | _ => none
    | false => none
  | _ => none
end

/-! ### They are the model's. -/

theorem look_tidyTW : ∀ (n : Nat) {tm : TW} {i : Nat} {v : W}, look (tidyTW n tm) i = some v → look tm i = some v
  | 0, _, _, _, h => by cases h
  | n + 1, tm, i, v, h => by
    simp only [tidyTW] at h
    split at h
    · next u hu =>
      rw [kW_eq, look_cons] at h
      split at h
      · next e => subst e; cases h; exact hu
      · exact look_tidyTW n h
    · exact look_tidyTW n h

theorem look_tidySW : ∀ (st : SB) (seen : List Nat) (j : Nat), memN seen j = false → look (tidySW seen st) j = look st j
  | [], _, _, _ => rfl
  | (b, x) :: st, seen, j, h => by
    simp only [tidySW]
    split
    · next hb =>
      rw [look_cons, if_neg (by rintro rfl; rw [hb] at h; cases h)]
      exact look_tidySW st seen j h
    · next hb =>
      rw [look_cons, look_cons]
      split
      · rfl
      · next hne => exact look_tidySW st (b :: seen) j (by rw [memN_cons, beq_ne hne, h]; rfl)

section
variable {O : Nat → Prop} {w0 : World} {M0 : MM} {N0 : Nat} {U : Nat → Prop} {m : MM} {sz : Nat} {tm : TW} {st : SB} {a : Act} {w : World}
theorem RelM.tidy (h : RelM O w0 M0 N0 U m sz tm st a w) (n : Nat) : RelM O w0 M0 N0 U m sz (tidyTW n tm) (tidySW [] st) a w := by
  refine (h.congr (st' := tidySW [] st) fun j => look_tidySW st [] j rfl).act (fun i => ?_) h.hsz
  cases hl : look (tidyTW n tm) i with
  | none => exact trivial
  | some v =>
    have := h.htm i
    rw [look_tidyTW n hl] at this
    exact this

theorem RelM.sweep (h : RelM O w0 M0 N0 U m sz tm st a w) (st0 : SB) (r : W) : RelM O w0 M0 N0 U m sz tm (sweepM st0 r st) a w := h.fewer fun b x hx => look_pick _ _ b x hx
end

section
variable {P : Program} {H : WH} {HD : WD}

def FnDOK (P : Program) (g : FuncId) (args : List W) (st : SB) (top : Nat) (st' : SB) (top' : Nat) : Prop :=
  ∀ (O : Nat → Prop) (m : MM) (w : World) (vs : List Value), RelH O w m top top m st w → RWs m false args vs → CallsDIn Fence.wide 0 P g vs.toArray .returning w fun e u' w' => u' = .returning ∧ After O w m top st' top' .top e w'
def HDOK (P : Program) (HD : WD) : Prop := ∀ g avs st top st' top', HD g avs st top = some (st', top') → top ≤ top' ∧ EntersOK P g ∧ FnDOK P g avs st top st' top'

theorem xcallF_spec {c : W} {avs : List W} {st : SB} {top : Nat} {v : W} {us : SB} {rs : List Nat} {top' : Nat} (h : xcallF H c avs st top = some (v, us, rs, top')) :
    ∃ sr s2, us = s2 ++ deads sr ∧ (∀ b x, look sr b = some x → look st b = some x) ∧ (∀ b x, look s2 b = some x → top ≤ b ∨ ∃ y, look sr b = some y) ∧ H c avs sr top = some (v, s2, top') := by
  unfold xcallF at h
  simp only at h
  split at h
  · next r s2 top1 hcall =>
    split at h
    · next hall =>
      cases h
      refine ⟨_, s2, rfl, fun b x hb => look_pick _ _ _ _ hb, fun b x hb => ?_, hcall⟩
      have := List.all_eq_true.1 hall (b, x) (look_mem hb)
      simp only [Bool.or_eq_true] at this
      rcases this with h1 | h1
      · exact .inl (Nat.le_of_ble_eq_true h1)
      · exact .inr (Option.isSome_iff_exists.1 h1)
    · cases h
  · cases h

theorem xdefF_spec {g : FuncId} {avs : List W} {st : SB} {top : Nat} {st' : SB} {top' : Nat} (h : xdefF HD g avs st top = some (st', top')) :
    ∃ sr s2, st' = s2 ++ (deads sr ++ st) ∧ (∀ b x, look sr b = some x → look st b = some x) ∧ (∀ b x, look s2 b = some x → top ≤ b ∨ ∃ y, look sr b = some y) ∧ HD g avs sr top = some (s2, top') := by
  unfold xdefF at h
  simp only at h
  split at h
  · next s2 top1 hcall =>
    split at h
    · next hall =>
      cases h
      refine ⟨_, s2, rfl, fun b x hb => look_pick _ _ _ _ hb, fun b x hb => ?_, hcall⟩
      have := List.all_eq_true.1 hall (b, x) (look_mem hb)
      simp only [Bool.or_eq_true] at this
      rcases this with h1 | h1
      · exact .inl (Nat.le_of_ble_eq_true h1)
      · exact .inr (Option.isSome_iff_exists.1 h1)
    · cases h
  · cases h

theorem xloopM_sound {f : MS → Option (AX × MS)} {FF : Fence} {O : Nat → Prop} {w0 : World} {M0 : MM} {N0 : Nat} {sz : Nat} {c : Code} {e : AX} {s' : MS} {QQ : Exit → Act → World → Prop}
    (hq : ∀ a' w' m', RelM O w0 M0 N0 (fun b => s'.nx ≤ b) m' sz s'.tm s'.st a' w' → RDs m' s'.ds a'.defers → QQ (exOf e) a' w')
    (hf : ∀ (s : MS) (e1 : AX) (s1 : MS), f s = some (e1, s1) → ∀ (QQ : Exit → Act → World → Prop) (m : MM) (a : Act) (w : World), RelM O w0 M0 N0 (fun b => s.nx ≤ b) m sz s.tm s.st a w → RDs m s.ds a.defers →
      (∀ a' w' m', RelM O w0 M0 N0 (fun b => s1.nx ≤ b) m' sz s1.tm s1.st a' w' → RDs m' s1.ds a'.defers → QQ (exOf e1) a' w') → c.wpIn FF 0 P QQ a w)
    {n : Nat} {s : MS} (h : xloopM f sz n s = some (e, s')) {m : MM} {a : Act} {w : World} (hR : RelM O w0 M0 N0 (fun b => s.nx ≤ b) m sz s.tm s.st a w) (hM : RDs m s.ds a.defers) : (Code.loop c).wpIn FF 0 P QQ a w := by
  refine wpIn_loop_ghost (fun k a w => ∃ s m, xloopM f sz k s = some (e, s') ∧ RelM O w0 M0 N0 (fun b => s.nx ≤ b) m sz s.tm s.st a w ∧ RDs m s.ds a.defers) n ⟨s, m, h, hR, hM⟩ ?_
  rintro k a w ⟨s, m, h, hR, hM⟩
  cases k with
  | zero => cases h
  | succ k =>
    simp only [xloopM] at h
    have hR' : RelM O w0 M0 N0 (fun b => (tidyM sz s).nx ≤ b) m sz (tidyM sz s).tm (tidyM sz s).st a w := hR.tidy sz
    split at h
    · next s1 h1 => exact hf _ _ _ h1 _ m a w hR' hM fun a' w' m' r1 r2 => ⟨k, Nat.lt_succ_self k, s1, m', h, r1, r2⟩
    · next i s1 h1 => cases h; exact hf _ _ _ h1 _ m a w hR' hM fun a' w' m' r1 r2 => hq a' w' m' r1 r2
    · next s1 h1 => cases h; exact hf _ _ _ h1 _ m a w hR' hM fun a' w' m' r1 r2 => hq a' w' m' r1 r2
    · cases h

/-- Behind the call of a range. -/
theorem range_endM {FF : Fence} {O : Nat → Prop} {w0 w2 : World} {M0 : MM} {N0 : Nat} {sz : Nat} {tm : TW} {a a' : Act} {m3 : MM} {st2 : SB} {nx2 : Nat} {b l c : Nat} {r2 : LoopM} {ds : List DW}
    {e : AX} {j : Option Code} {QQ : Exit → Act → World → Prop}
    (h2 : RelM O w0 M0 N0 (fun b => nx2 ≤ b) m3 sz tm st2 a w2) (ha : a'.tmps = a.tmps) (hb : m3 b = some (l, c)) (hl : look st2 b = some (.loop r2)) (hbusy : isBusy r2.state = false) (hM : RDs m3 ds a'.defers)
    (hj : r2.pending = j) (hje : (e = .normal ∧ j = none) ∨ (∃ i, e = .exit i ∧ j = some (.exit i)) ∨ (e = .ret ∧ j = some .ret))
    (hq : ∀ w3, RelM O w0 M0 N0 (fun b => nx2 ≤ b) m3 sz tm ((b, .loop { r2 with state := .exhausted }) :: st2) a' w3 → QQ (exOf e) a' w3) {v : Value} :
    rangePost FF 0 P l QQ a' (.returned v) w2 := by
  obtain ⟨g', c', lp, q1, q2, q3, q5, q6, q7, q8, q9, q10, q11⟩ := h2.hst b _ hl
  rw [hb] at q1; cases q1
  have hnb : lp.state ≠ .busy := by
    intro e
    rw [q5] at e
    rw [e] at hbusy
    cases hbusy
  have h3 := h2.putObj (x1 := .loop { r2 with state := .exhausted }) hl (by simp) hb q2 (o := .loop { lp with state := .exhausted }) (by
    intro hnew
    exact ⟨_, _, _, hb, q2, hnew, rfl, q6, q7, q8, q9, q10, q11⟩)
  have h4 : RelM O w0 M0 N0 (fun b => nx2 ≤ b) m3 sz tm ((b, .loop { r2 with state := .exhausted }) :: st2) a' (w2.putObj l (.loop { lp with state := .exhausted })) :=
    h3.act (fun i => by rw [ha]; exact h3.htm i) (by rw [ha]; exact h3.hsz)
  refine ⟨lp.pending, _, run_endLoop q3 hnb, ?_⟩
  have hfin := hq _ h4
  have hp : lp.pending = j := q6.trans hj
  generalize (w2.putObj l (.loop { lp with state := .exhausted })) = w3 at hfin ⊢
  rw [hp]
  rcases hje with ⟨rfl, rfl⟩ | ⟨i, rfl, rfl⟩ | ⟨rfl, rfl⟩
  · exact hfin
  · exact wpIn_exit hfin
  · exact wpIn_ret hfin

theorem xcodeM_sound (hH : HOK P H) (hmix : P.follows .mixedOrders = true) {FF : Fence} (hW : Wide FF) {fuel sz : Nat} {rd : Option Nat} : ∀ (c : Code) (s : MS) (e : AX) (s' : MS), xcodeM P H fuel sz rd c s = some (e, s') →
    ∀ (O : Nat → Prop) (QQ : Exit → Act → World → Prop) (w0 : World) (M0 m : MM) (N0 : Nat) (a : Act) (w : World), RelM O w0 M0 N0 (fun b => s.nx ≤ b) m sz s.tm s.st a w → RDs m s.ds a.defers → RdOK m FF rd →
      (∀ a' w' m', RelM O w0 M0 N0 (fun b => s'.nx ≤ b) m' sz s'.tm s'.st a' w' → (∀ b y, m b = some y → m' b = some y) → RDs m' s'.ds a'.defers → QQ (exOf e) a' w') → c.wpIn FF 0 P QQ a w
  | .skip, s, e, s', hx, O, QQ, w0, M0, m, N0, a, w, h, hM, hrd, hq => by cases hx; exact wpIn_skip (hq a w m h (fun _ _ e => e) hM)
  | .exit i, s, e, s', hx, O, QQ, w0, M0, m, N0, a, w, h, hM, hrd, hq => by cases hx; exact wpIn_exit (hq a w m h (fun _ _ e => e) hM)
  | .ret, s, e, s', hx, O, QQ, w0, M0, m, N0, a, w, h, hM, hrd, hq => by cases hx; exact wpIn_ret (hq a w m h (fun _ _ e => e) hM)
  | .region id ops false, s, e, s', hx, O, QQ, w0, M0, m, N0, a, w, h, hM, hrd, hq => by
    simp only [xcodeM] at hx
    split at hx
    · next tm1 st1 nx1 ds1 h1 =>
      cases hx
      refine wpIn_region ?_
      have hN : N0 ≤ s.nx := h.un s.nx (Nat.le_refl _)
      have := xopsW_sound hH hW (O := O) (w0 := w) (M0 := m) (N0 := s.nx) (free := isOut rd) (fun e => by cases rd with | none => exact hrd | some b => cases e) (ops := ops) (Q := QQ)
        (fun m' a' w' hR hD => hq a' w' m' (h.comp hN hR) hR.pin hD) ops.toList 0 s.nx m s.tm s.st s.ds a w rfl (h.base fun b hb => hb) hM h1
      simpa using this
    · cases hx
  | .region id ops true, s, e, s', hx, O, QQ, w0, M0, m, N0, a, w, h, hM, hrd, hq => by
    simp only [xcodeM] at hx
    split at hx
    · cases hx
    · next hah =>
      rw [kN_eq] at hx
      split at hx
      · next tm1 st1 nx1 h1 =>
        cases hx
        have hN : N0 ≤ s.nx := h.un s.nx (Nat.le_refl _)
        exact xopsO_sound hH hW hmix hah (w0 := w) (M0 := m) (N0 := s.nx) (h.base fun b hb => hb) hM h1 fun m' a' w' hR hD => hq a' w' m' (h.comp hN hR) hR.pin hD
      · cases hx
  | .seq x y, s, e, s', hx, O, QQ, w0, M0, m, N0, a, w, h, hM, hrd, hq => by
    simp only [xcodeM] at hx
    refine wpIn_seq ?_
    split at hx
    · next s1 h1 =>
      refine xcodeM_sound hH hmix hW x s _ s1 h1 O _ w0 M0 m N0 a w h hM hrd fun a1 w1 m1 r1 r2 r3 => ?_
      exact xcodeM_sound hH hmix hW y s1 e s' hx O QQ w0 M0 m1 N0 a1 w1 r1 r3 (hrd.mono r2) fun a2 w2 m2 q1 q2 q3 => hq a2 w2 m2 q1 (fun b y e => q2 b y (r2 b y e)) q3
    · next i s1 h1 => cases hx; exact xcodeM_sound hH hmix hW x s _ _ h1 O _ w0 M0 m N0 a w h hM hrd fun a1 w1 m1 r1 r2 r3 => hq a1 w1 m1 r1 r2 r3
    · next s1 h1 => cases hx; exact xcodeM_sound hH hmix hW x s _ _ h1 O _ w0 M0 m N0 a w h hM hrd fun a1 w1 m1 r1 r2 r3 => hq a1 w1 m1 r1 r2 r3
    · cases hx
  | .cond c x y, s, e, s', hx, O, QQ, w0, M0, m, N0, a, w, h, hM, hrd, hq => by
    simp only [xcodeM] at hx
    have he := h.ev c
    split at hx
    · next hb =>
      rw [hb] at he
      exact wpIn_cond (t := true) he (xcodeM_sound hH hmix hW x s e s' hx O QQ w0 M0 m N0 a w h hM hrd hq)
    · next hb =>
      rw [hb] at he
      exact wpIn_cond (t := false) he (xcodeM_sound hH hmix hW y s e s' hx O QQ w0 M0 m N0 a w h hM hrd hq)
    · cases hx
  | .block i c, s, e, s', hx, O, QQ, w0, M0, m, N0, a, w, h, hM, hrd, hq => by
    simp only [xcodeM] at hx
    refine wpIn_block ?_
    split at hx
    · next j s1 h1 =>
      split at hx
      · next hj =>
        cases hx
        have := Nat.eq_of_beq_eq_true hj
        subst this
        refine xcodeM_sound hH hmix hW c s _ _ h1 O _ w0 M0 m N0 a w h hM hrd fun a1 w1 m1 r1 r2 r3 => ?_
        show Exit.inBlock j QQ (.exit j) a1 w1
        simp only [Exit.inBlock, if_true]
        exact hq a1 w1 m1 r1 r2 r3
      · next hj =>
        cases hx
        have hne : ¬ j = i := by rintro rfl; simp at hj
        refine xcodeM_sound hH hmix hW c s _ _ h1 O _ w0 M0 m N0 a w h hM hrd fun a1 w1 m1 r1 r2 r3 => ?_
        show Exit.inBlock i QQ (.exit j) a1 w1
        simp only [Exit.inBlock, if_neg hne]
        exact hq a1 w1 m1 r1 r2 r3
    · next s1 h1 => cases hx; exact xcodeM_sound hH hmix hW c s _ _ h1 O _ w0 M0 m N0 a w h hM hrd fun a1 w1 m1 r1 r2 r3 => hq a1 w1 m1 r1 r2 r3
    · next s1 h1 => cases hx; exact xcodeM_sound hH hmix hW c s _ _ h1 O _ w0 M0 m N0 a w h hM hrd fun a1 w1 m1 r1 r2 r3 => hq a1 w1 m1 r1 r2 r3
    · cases hx
  | .loop c, s, e, s', hx, O, QQ, w0, M0, m, N0, a, w, h, hM, hrd, hq => by
    simp only [xcodeM] at hx
    have hN : N0 ≤ s.nx := h.un s.nx (Nat.le_refl _)
    refine xloopM_sound (w0 := w) (M0 := m) (N0 := s.nx) (fun a' w' m' r1 r2 => hq a' w' m' (h.comp hN r1) r1.pin r2) ?_ hx (h.base fun b hb => hb) hM
    intro s1 e1 s2 h1 QQ1 m1 a1 w1 hR1 hM1 hq1
    exact xcodeM_sound hH hmix hW c s1 e1 s2 h1 O QQ1 w m m1 s.nx a1 w1 hR1 hM1 (hrd.mono hR1.pin) fun a' w' m' r1 r2 r3 => hq1 a' w' m' r1 r3
  | .rangeFunc f ps assign body, s, e, s', hx, O, QQ, w0, M0, m, N0, a, w, h, hM, hrd, hq => by
    simp only [xcodeM] at hx
    split at hx
    · cases hx
    · next s1 hs1 =>
      have hf := h.ev f
      split at hx
      · next g caps hg =>
        rw [hg] at hf
        obtain ⟨arr, hf', hv⟩ := hf
        split at hx
        · next rr us rs nx2 hcall =>
          obtain ⟨sr, s2, hus, hsr, hs2, hcall⟩ := xcallF_spec hcall
          obtain ⟨htt, henter, hok⟩ := hH _ _ _ _ _ _ _ hcall
          have hus2 : us ++ s1.st = s2 ++ (deads sr ++ s1.st) := by rw [hus, List.append_assoc]
          split at hx
          · next r2 hr2 =>
            split at hx
            · cases hx
            · next hbusy =>
              have hje : ∃ j, r2.pending = j ∧ ((e = .normal ∧ j = none) ∨ (∃ i, e = .exit i ∧ j = some (.exit i)) ∨ (e = .ret ∧ j = some .ret)) ∧ s' = ⟨s.tm, s1.ds, (s.nx, .loop { r2 with state := .exhausted }) :: (us ++ s1.st), nx2⟩ := by
                split at hx
                · next hp => cases hx; exact ⟨_, hp, .inl ⟨rfl, rfl⟩, rfl⟩
                · next i hp => cases hx; exact ⟨_, hp, .inr (.inl ⟨i, rfl, rfl⟩), rfl⟩
                · next hp => cases hx; exact ⟨_, hp, .inr (.inr ⟨rfl, rfl⟩), rfl⟩
                · cases hx
              obtain ⟨j, hj, hje, rfl⟩ := hje
              rw [hus2] at hr2 hq
              refine wpIn_rangeFunc fun fn _ => ?_
              have hres : ∀ (l : Nat) (w1 : World), (resolve a.eval (rangeCall f l) 0).run P w1 = .ok { target := .fn (.func g) arr, args := #[.func (.yield l) #[] #[]] } w1 := by
                intro l w1
                have e : (rangeCall f l).args.map a.eval = #[.func (.yield l) #[] #[]] := by simp [rangeCall, Act.eval]
                show (Deferred.ofValue (a.eval f) ((rangeCall f l).args.map a.eval)).run P w1 = _
                rw [hf', e]
                rfl
              have hinv : ∀ (l : Nat) (w1 : World), (invoke (.fn (.func g) arr) #[.func (.yield l) #[] #[]]).run P w1 = .ok (.enter g (.func (.yield l) #[] #[] :: arr.toList).toArray) w1 := by
                intro l w1
                simp only [invoke]
                have e : (#[.func (.yield l) #[] #[]] ++ arr : Array Value) = (.func (.yield l) #[] #[] :: arr.toList).toArray := by
                  apply Array.ext'
                  simp
                rw [e, henter]
              have hargs : ∀ (m1 : MM) (l c : Nat), m1 s.nx = some (l, c) → (∀ b y, m b = some y → m1 b = some y) → RWs m1 false ([.yld s.nx] ++ caps) (.func (.yield l) #[] #[] :: arr.toList) := by
                intro m1 l c hb hmm
                exact ⟨⟨⟨l, c, hb, rfl⟩, fun e => by cases e⟩, RWs.mono hmm _ _ hv⟩
              have hN : N0 ≤ s.nx := h.un s.nx (Nat.le_refl _)
              cases rd with
              | none =>
                have hro : FF.round = none := hrd
                cases hs1
                obtain ⟨hA, hmA⟩ := h.new (id := s.nx + 1) 0 (by show s.nx ≤ s.nx + 1; omega) (o := .deferred (some [])) (x := .mark true) (by simp) (by
                  intro m' hm' hid hh
                  exact ⟨_, _, hid, h.own_new, hh⟩)
                obtain ⟨hB, hmB⟩ := hA.new (id := s.nx) 0 (by constructor <;> first | omega | (show s.nx ≤ s.nx; omega)) (o := .loop { state := .ready, pending := none, fn, tmps := a.tmps, params := ps, assign, body, defers := w.heap.size })
                  (x := .loop ⟨s.tm, sz, ps, assign, body, .ready, none⟩) (by simp) (by
                  intro m' hm' hid hh
                  exact ⟨_, _, _, hid, hA.own_new, hh, rfl, rfl, rfl, rfl, rfl, h.hsz, fun i => RW.mono hm' _ _ (hA.htm i)⟩)
                have hsize : (w.alloc (.deferred (some []))).heap.size = w.heap.size + 1 := by simp
                have hBU := hB.weakU (U' := fun b => s.nx + 2 ≤ b) fun b hb => ⟨⟨show s.nx ≤ b by omega, by omega⟩, by omega⟩
                refine ⟨w.heap.size + 1, [{ target := .collected w.heap.size, args := #[] }], _, _, _, g, _, _, by rw [hro]; exact run_enterLoop_outer fn a.tmps ps assign body, hres _ _, fun f' _ => hW.fn f', hinv _ _, fun e => (by rw [hW.dep] at e; cases e), callsIn_of_calls hW ?_⟩
                refine (hok _ _ _ _ (hBU.frame_in (fun _ e => e) hsr) (hargs _ (w.heap.size + 1) 0 (by simp [hsize]) (fun b y e => hmB b y (hmA b y e)))).mono ?_
                rintro en w2 ⟨v, m3, rfl, hk, _⟩
                have h2 := (hBU.frame_out (fun _ e => e) htt hsr hs2 hk).weakU (U' := fun b => nx2 ≤ b) fun b hb => ⟨Nat.le_trans htt hb, fun _ => hb⟩
                have hm3 : m3 s.nx = some (w.heap.size + 1, 0) := hk.pin _ _ (by simp [hsize])
                have hpin : ∀ b y, m b = some y → m3 b = some y := fun b y e => hk.pin _ _ (hmB b y (hmA b y e))
                refine range_endM (a' := { a with defers := [{ target := .collected w.heap.size, args := #[] }] ++ a.defers }) (ds := .mark (s.nx + 1) :: s.ds) h2 rfl hm3 hr2 hbusy ?_ hj hje fun w3 r1 => ?_
                · exact ⟨⟨w.heap.size, 0, hk.pin _ _ (hmB _ _ (by simp)), rfl⟩, hM.mono hpin⟩
                · exact hq _ w3 m3 r1 hpin ⟨⟨w.heap.size, 0, hk.pin _ _ (hmB _ _ (by simp)), rfl⟩, hM.mono hpin⟩
              | some b =>
                obtain ⟨l0, c0, hro, hb0⟩ := hrd
                simp only [xenterM] at hs1
                split at hs1
                · next r0 hr0 =>
                  cases hs1
                  obtain ⟨g0, c0', lp0, z1, z2, z3, _⟩ := h.hst b _ hr0
                  rw [hb0] at z1; cases z1
                  obtain ⟨hB, hmB⟩ := h.new (id := s.nx) 0 (by show s.nx ≤ s.nx; omega) (o := .loop { state := .ready, pending := none, fn, tmps := a.tmps, params := ps, assign, body, defers := lp0.defers })
                    (x := .loop ⟨s.tm, sz, ps, assign, body, .ready, none⟩) (by simp) (by
                    intro m' hm' hid hh
                    exact ⟨_, _, _, hid, h.own_new, hh, rfl, rfl, rfl, rfl, rfl, h.hsz, fun i => RW.mono hm' _ _ (h.htm i)⟩)
                  have hBU := hB.weakU (U' := fun b => s.nx + 1 ≤ b) fun b hb => ⟨show s.nx ≤ b by omega, by omega⟩
                  refine ⟨w.heap.size, [], _, _, _, g, _, _, by rw [hro]; exact run_enterLoop_inner z3 fn a.tmps ps assign body, hres _ _, fun f' _ => hW.fn f', hinv _ _, fun e => (by rw [hW.dep] at e; cases e), callsIn_of_calls hW ?_⟩
                  refine (hok _ _ _ _ (hBU.frame_in (fun _ e => e) hsr) (hargs _ w.heap.size 0 (by simp) hmB)).mono ?_
                  rintro en w2 ⟨v, m3, rfl, hk, _⟩
                  have h2 := (hBU.frame_out (fun _ e => e) htt hsr hs2 hk).weakU (U' := fun b => nx2 ≤ b) fun b hb => ⟨Nat.le_trans htt hb, fun _ => hb⟩
                  have hm3 : m3 s.nx = some (w.heap.size, 0) := hk.pin _ _ (by simp)
                  have hpin : ∀ b y, m b = some y → m3 b = some y := fun b y e => hk.pin _ _ (hmB b y e)
                  refine range_endM (a' := { a with defers := [] ++ a.defers }) (ds := s.ds) h2 rfl hm3 hr2 hbusy (hM.mono hpin) hj hje fun w3 r1 => ?_
                  exact hq _ w3 m3 r1 hpin (hM.mono hpin)
                · cases hs1
          · cases hx
        · cases hx
      · cases hx
  | .scope _, _, _, _, hx, _, _, _, _, _, _, _, _, _, _, _, _ => by cases hx
  | .label _, _, _, _, hx, _, _, _, _, _, _, _, _, _, _, _, _ => by cases hx
  | .goto _, _, _, _, hx, _, _, _, _, _, _, _, _, _, _, _, _ => by cases hx
  | .refuse _, _, _, _, hx, _, _, _, _, _, _, _, _, _, _, _, _ => by cases hx
end
end
end Go.Ev.Mi
/- The mirror machine: functions, rounds; a call without arguments, run. -/
set_option linter.unusedVariables false
set_option linter.unusedSimpArgs false
namespace Go.Ev.Mi
open Go.RowKit
noncomputable section

section
variable {P : Program} {H : WH} {HD : WD}

theorem xleaveM_ok (hHD : HDOK P HD) {fn : Func} {tmps : Array Value} {R : Ending → World → Prop} {O : Nat → Prop} {w0 : World} {M0 : MM} {N0 : Nat} {sz : Nat} {tm : TW} {a : Act} {st1 : SB} {nx1 : Nat} :
    ∀ (ds : List DW) (D : List Deferred) (st : SB) (nx : Nat) (m : MM) (w : World), xleaveM HD ds st nx = some (st1, nx1) → RelM O w0 M0 N0 (fun b => nx ≤ b) m sz tm st a w → RDs m ds D →
      (∀ m1 w1, RelM O w0 M0 N0 (fun b => nx1 ≤ b) m1 sz tm st1 a w1 → ∃ v, (results fn tmps).run P w1 = .ok v w1 ∧ R (.returned v) w1) → LeavesInM Fence.wide 0 P fn tmps R D .returning w
  | [], [], st, nx, m, w, hx, h, _, hq => by cases hx; exact hq m w h
  | [], _ :: _, _, _, _, _, _, _, hM, _ => hM.elim
  | _ :: _, [], _, _, _, _, _, _, hM, _ => hM.elim
  | .mark b :: ds, d :: D, st, nx, m, w, hx, h, ⟨⟨g, c, hb, hd⟩, hM⟩, hq => by
    simp only [xleaveM] at hx
    split at hx
    · next hl =>
      obtain ⟨g', c', q1, q2, q3⟩ := h.hst b _ hl
      rw [hb] at q1; cases q1
      have h2 := h.putObj (x1 := .mark false) hl (by simp) hb q2 (o := .deferred none) (fun hnew => ⟨_, _, hb, q2, hnew⟩)
      refine ⟨by simp, .inl ⟨g, _, by rw [hd], run_takeDeferred q3, xleaveM_ok hHD ds D _ nx m _ hx h2 hM hq⟩⟩
    · cases hx
  | .call g args caps :: ds, d :: D, st, nx, m, w, hx, h, ⟨⟨vs, cs, hd, hva, hvc⟩, hM⟩, hq => by
    simp only [xleaveM] at hx
    split at hx
    · next st' nx' hcall =>
      obtain ⟨sr, s2, hst', hsr, hs2, hcall⟩ := xdefF_spec hcall
      obtain ⟨htt, henter, hok⟩ := hHD _ _ _ _ _ _ hcall
      subst hst' hd
      have hinv : (invoke (.fn (.func g) cs.toArray) vs.toArray).run P w = .ok (.enter g (vs ++ cs).toArray) w := by
        simp only [invoke]
        have e : (vs.toArray ++ cs.toArray : Array Value) = (vs ++ cs).toArray := by simp
        rw [e, henter]
      refine ⟨by simp, .inr ⟨fun e => (by cases e), .func g, cs.toArray, g, (vs ++ cs).toArray, rfl, hinv, fun _ _ => trivial, ?_⟩⟩
      refine (hok _ m w _ (h.frame_in (fun _ e => e) hsr) (RWs_append hva hvc)).mono ?_
      rintro e u' w' ⟨rfl, v, m3, rfl, hk, _⟩
      have h2 := (h.frame_out (fun _ e => e) htt hsr hs2 hk).weakU (U' := fun b => nx' ≤ b) fun b hb => ⟨Nat.le_trans htt hb, fun _ => hb⟩
      exact xleaveM_ok hHD ds D _ nx' m3 w' hx h2 (hM.mono hk.pin) hq
    · cases hx

section
variable {O : Nat → Prop} {w0 : World} {M0 : MM} {N0 : Nat} {U : Nat → Prop} {m : MM} {sz : Nat} {tm : TW} {st : SB} {a : Act} {w : World}

theorem resOneM_ok (h : RelM O w0 M0 N0 U m sz tm st a w) {r : ResultVar} {c : W} (hx : resOneM P tm st r = some c) : ∃ v, (resOne a.tmps r).run P w = .ok v w ∧ RW m c v := by
  cases r with
  | tmp t =>
    cases hx
    exact ⟨_, rfl, h.htm t⟩
  | cell p t =>
    simp only [resOneM] at hx
    split at hx
    · next b off hb =>
      have hp := h.htm p
      rw [hb] at hp
      obtain ⟨g, C, hm, hp'⟩ := hp
      split at hx
      · next cs e size hl =>
        split at hx
        · next v rest hv =>
          cases hx
          obtain ⟨g', C', arr, h1, h2, h3, h4, h5⟩ := h.hst b _ hl
          rw [hm] at h1; cases h1
          obtain ⟨st'', rs'', us''⟩ := rest
          obtain ⟨c', y, hy, hk, hrun, _⟩ := take_sound (P := P) (w := w) (T.x_go (K := fun v' _ => v' = c) _ _ _ _ _ _ _ _ hv rfl) h4
          subst hk
          have := hrun g (cellsAt_of h3)
          refine ⟨y, ?_, hy⟩
          simp only [resOne, hp']
          simpa [asAddr, Instr.loadAt, Instr.sureAddr] using this
        · cases hx
      · cases hx
    · cases hx

theorem resAllM_ok (h : RelM O w0 M0 N0 U m sz tm st a w) : ∀ {l : List ResultVar} {cs : List W}, resAllM P tm st l = some cs → ∃ vs, (l.mapM (resOne a.tmps)).run P w = .ok vs w ∧ RWs m false cs vs
  | [], cs, hx => by cases hx; exact ⟨[], rfl, trivial⟩
  | r :: l, cs, hx => by
    simp only [resAllM] at hx
    split at hx
    · next v vs hv hvs =>
      cases hx
      obtain ⟨x, h1, h2⟩ := resOneM_ok h hv
      obtain ⟨xs, h3, h4⟩ := resAllM_ok h hvs
      exact ⟨x :: xs, by simp [List.mapM_cons, h1, h3], ⟨h2, fun e => by cases e⟩, h4⟩
    · cases hx

theorem pack_RW {cs : List W} {xs : List Value} (h : RWs m false cs xs) : RW m (packM cs) (packV xs) := by
  match cs, xs, h with
  | [], [], _ => exact ⟨#[], rfl, trivial⟩
  | [c], [x], h => exact h.1.1
  | c :: d :: cs, x :: y :: xs, h => exact ⟨_, rfl, h⟩
  | [c], x :: y :: xs, h => exact h.2.elim
  | c :: d :: cs, [x], h => exact h.2.elim

theorem resM_ok (h : RelM O w0 M0 N0 U m sz tm st a w) {fn : Func} {cs : List W} (hx : resAllM P tm st fn.results.toList = some cs) : ∃ v, (results fn a.tmps).run P w = .ok v w ∧ RW m (packM cs) v := by
  obtain ⟨vs, h1, h2⟩ := resAllM_ok h hx
  exact ⟨_, results_eq fn a.tmps w vs h1, pack_RW h2⟩
end

theorem look_startW : ∀ (avs : List W) (k i : Nat), look (((List.range' k avs.length)).zip avs) i = if k ≤ i then avs[i - k]? else none
  | [], k, i => by simp
  | c :: avs, k, i => by
    simp only [List.length_cons, List.range'_succ, List.zip_cons_cons, look_cons, look_startW avs (k + 1) i]
    by_cases h : k = i
    · subst h; simp
    · rw [if_neg h]
      by_cases h2 : k + 1 ≤ i
      · rw [if_pos h2, if_pos (by omega)]
        have : i - k = i - (k + 1) + 1 := by omega
        rw [this, List.getElem?_cons_succ]
      · rw [if_neg h2, if_neg (by omega)]

theorem start_ok {O : Nat → Prop} {m : MM} {w : World} {st : SB} {top : Nat} {args : List W} {vs : List Value} {n : Nat} (h : RelH O w m top top m st w) (hv : RWs m false args vs) (hlen : args.length ≤ n) :
    RelM O w m top (fun b => top ≤ b) m n (startW args) st { tmps := vs.toArray ++ Array.replicate (n - vs.toArray.size) undef, defers := [] } w := by
  have hl := RWs_length hv
  refine h.act (fun i => ?_) (by simp; omega)
  have e : look (startW args) i = args[i]? := by
    unfold startW
    rw [List.range_eq_range', look_startW args 0 i]
    simp
  rw [e]
  cases hi : args[i]? with
  | none => exact trivial
  | some c =>
    have hil : i < args.length := (List.getElem?_eq_some_iff.1 hi).1
    have hx : vs[i]? = some (vs[i]'(by omega)) := List.getElem?_eq_getElem (by omega)
    have := ((RWs_iff.1 hv).2 i c _ hi hx).1
    simp only [Option.getD_some]
    have e2 : (vs.toArray ++ Array.replicate (n - vs.toArray.size) undef).getD i undef = vs[i]'(by omega) := by
      rw [Array.getD_eq_getD_getElem?, Array.getElem?_append_left (by simp; omega)]
      simp [hx]
    rw [e2]
    exact this

theorem ends_eq {e : AX} (h : ends e = true) : e = .normal ∨ e = .ret := by
  cases e with
  | normal => exact .inl rfl
  | ret => exact .inr rfl
  | exit i => cases h

theorem xfnM_ok (hH : HOK P H) (hHD : HDOK P HD) (hmix : P.follows .mixedOrders = true) {g : FuncId} {fn : Func} {c : Code} (hf : P.funcs[g]? = some fn) (hb : fn.body = some c) {fuel : Nat} {args : List W} {st : SB} {top : Nat} {r : W} {st' : SB} {top' : Nat}
    (hx : xfnM P H HD fuel fn c args st top = some (r, st', top')) : FnOK P g args st top r st' top' := by
  intro O m w vs h hv
  unfold xfnM at hx
  split at hx
  · cases hx
  · next hle =>
    have hlen : args.length ≤ fn.ntmps := Nat.le_of_ble_eq_true hle
    split at hx
    · cases hx
    · next e s hc =>
      split at hx
      · cases hx
      · next hends =>
        split at hx
        · cases hx
        · next st1 nx1 hm =>
          split at hx
          · cases hx
          · next cs hr =>
            rw [kW_eq, kSB_eq] at hx
            cases hx
            refine callsIn_wide.1 (callsIn_of_wp_marks (n := 0) hf hb trivial ?_)
            refine xcodeM_sound hH hmix wide_wide c ⟨startW args, [], st, top⟩ e s hc O _ w m m top _ w (start_ok h hv hlen) trivial rfl fun a' w' m' r1' r2' r3' => ?_
            have fin : LeavesInM Fence.wide 0 P fn a'.tmps (After O w m top (sweepM st (packM cs) st1) top' (packM cs)) a'.defers .returning w' := by
              refine xleaveM_ok hHD (nx1 := top') s.ds a'.defers s.st s.nx m' w' hm r1' r3' fun m1 w1 hR1 => ?_
              obtain ⟨v, hrun, hv2⟩ := resM_ok hR1 hr
              exact ⟨v, hrun, v, m1, rfl, (hR1.sweep _ _).heap, hv2⟩
            rcases ends_eq hends with rfl | rfl
            · exact fin
            · exact fin

theorem xdefM_ok (hH : HOK P H) (hmix : P.follows .mixedOrders = true) {g : FuncId} {fn : Func} {c : Code} (hf : P.funcs[g]? = some fn) (hb : fn.body = some c) {fuel : Nat} {args : List W} {st : SB} {top : Nat} {st' : SB} {top' : Nat}
    (hx : xdefM P H fuel fn c args st top = some (st', top')) : FnDOK P g args st top st' top' := by
  intro O m w vs h hv
  unfold xdefM at hx
  split at hx
  · cases hx
  · next hle =>
    have hlen : args.length ≤ fn.ntmps := Nat.le_of_ble_eq_true hle
    split at hx
    · cases hx
    · next e s hc =>
      split at hx
      · next hends hds =>
        split at hx
        · cases hx
        · next cs hr =>
          rw [kSB_eq] at hx
          cases hx
          refine callsDIn_of_wp (n := 0) hf hb trivial ?_
          refine xcodeM_sound hH hmix wide_wide c ⟨startW args, [], st, top⟩ e s hc O _ w m m top _ w (start_ok h hv hlen) trivial rfl fun a' w' m' r1' r2' r3' => ?_
          have hde : a'.defers = [] := by
            rw [hds] at r3'
            cases hdd : a'.defers with
            | nil => rfl
            | cons d D => rw [hdd] at r3'; exact r3'.elim
          obtain ⟨v, hrun, hv2⟩ := resM_ok r1' hr
          have fin : a'.defers = [] ∧ ∃ v, (results fn a'.tmps).run P w' = .ok v w' ∧ After O w m top (sweepM st .top s.st) s.nx .top (.returned v) w' := ⟨hde, v, hrun, v, m', rfl, (r1'.sweep _ _).heap, trivial⟩
          rcases ends_eq hends with rfl | rfl
          · exact fin
          · exact fin
      · cases hx

theorem foldl_putW {m : MM} {sz : Nat} : ∀ (l : List (Tmp × W)) (vs : List (Tmp × Value)) (tm : TW) (tmps : Array Value), l.length = vs.length → (∀ (i : Nat) (p : Tmp × W) (q : Tmp × Value), l[i]? = some p → vs[i]? = some q → p.1 = q.1 ∧ p.1 < sz ∧ RW m p.2 q.2) →
    tmps.size = sz → (∀ i, RW m ((look tm i).getD .top) (tmps.getD i undef)) →
    (vs.foldl (fun t p => t.setIfInBounds p.1 p.2) tmps).size = sz ∧ ∀ i, RW m ((look (l.foldl (fun t p => p :: t) tm) i).getD .top) ((vs.foldl (fun t p => t.setIfInBounds p.1 p.2) tmps).getD i undef)
  | [], [], tm, tmps, _, _, hs, ht => ⟨hs, ht⟩
  | [], _ :: _, _, _, hl, _, _, _ => by simp at hl
  | _ :: _, [], _, _, hl, _, _, _ => by simp at hl
  | p :: l, q :: vs, tm, tmps, hl, hp, hs, ht => by
    obtain ⟨h1, h2, h3⟩ := hp 0 p q rfl rfl
    obtain ⟨p1, p2⟩ := p
    obtain ⟨q1, q2⟩ := q
    simp only at h1 h2 h3
    subst h1
    refine foldl_putW l vs ((p1, p2) :: tm) (tmps.setIfInBounds p1 q2) (by simpa using hl) (fun i p q e1 e2 => hp (i + 1) p q (by simpa using e1) (by simpa using e2)) (by simpa using hs) fun i => ?_
    rw [look_cons]
    by_cases e : p1 = i
    · subst e
      have : (tmps.setIfInBounds p1 q2).getD p1 undef = q2 := by simp [Array.getD_eq_getD_getElem?, hs, h2]
      rw [this, if_pos rfl]
      exact h3
    · rw [if_neg e]
      have := ht i
      simpa [Array.getD_eq_getD_getElem?, Array.getElem?_setIfInBounds, e] using this

theorem xroundM_ok (hH : HOK P H) (hmix : P.follows .mixedOrders = true) {fuel b : Nat} {args : List W} {st : SB} {top : Nat} {r : W} {st' : SB} {top' : Nat}
    (hx : xroundM P H fuel b args st top = some (r, st', top')) : YldOK P b args st top r st' top' := by
  intro O m w vs h hv g c hm
  have hvl := RWs_length hv
  unfold xroundM at hx
  split at hx
  · next r0 hl0 =>
    split at hx
    · next hrd =>
      split at hx
      · cases hx
      · next hlen =>
        rw [Bool.and_eq_true] at hlen
        have hn : args.length = r0.ps.size := Nat.eq_of_beq_eq_true hlen.1
        obtain ⟨g', c', lp, q1, q2, q3, q5, q6, q7, q8, q9, q10, q11⟩ := h.hst b _ hl0
        rw [hm] at q1; cases q1
        have hvs : vs.length = lp.params.size := by rw [q7, ← hn, hvl]
        have hy := run_yield (P := P) (args := vs.toArray) q3 (by simpa using hvs)
        refine ⟨_, _, _, _, hy, fun FF hW => ?_⟩
        split at hx
        · next s1 hassign =>
          split at hx
          · next r1 hl1 =>
            split at hx
            · next hrd1 =>
              split at hx
              · cases hx
              · next e s2 hbody =>
                split at hx
                · next r2 hl2 =>
                  have hfold : (lp.params.zip vs.toArray).foldl (fun tmps (t, a) => tmps.setIfInBounds t a) lp.tmps = (r0.ps.toList.zip vs).foldl (fun t p => t.setIfInBounds p.1 p.2) lp.tmps := by
                    rw [q7, ← Array.foldl_toList, Array.toList_zip]
                  have hput := foldl_putW (m := m) (sz := r0.sz) (r0.ps.toList.zip args) (r0.ps.toList.zip vs) r0.tm lp.tmps (by simp [hvl]) (by
                    intro i p q e1 e2
                    rw [List.getElem?_zip_eq_some] at e1 e2
                    have : p.1 = q.1 := by have := e1.1.symm.trans e2.1; simpa using this
                    refine ⟨this, ?_, ((RWs_iff.1 hv).2 i _ _ e1.2 e2.2).1⟩
                    have := List.all_eq_true.1 hlen.2 p.1 (List.mem_of_getElem? e1.1)
                    exact Nat.le_of_ble_eq_true this) q10 q11
                  refine roundIn_of_wpIn (hW.fn _) ?_
                  rw [hfold]
                  have hR0 : RelM O w m top (fun b => top ≤ b) m r0.sz ((r0.ps.toList.zip args).foldl (fun t p => p :: t) r0.tm) st { tmps := (r0.ps.toList.zip vs).foldl (fun t p => t.setIfInBounds p.1 p.2) lp.tmps, defers := [] } w :=
                    h.act hput.2 hput.1
                  have hrdok : RdOK m (FF.inRound g) (some b) := ⟨g, c, rfl, hm⟩
                  rw [q8]
                  refine xcodeM_sound hH hmix (wide_round hW g) r0.assign _ _ s1 hassign O _ w m m top _ w hR0 trivial hrdok fun a1 w1 m1 z1 z2 z3 => ?_
                  -- the body
                  have hm1 := z2 _ _ hm
                  obtain ⟨g1, c1, lp1, y1, y2, y3, y5, y6, y7, y8, y9, y10, y11⟩ := z1.hst b _ hl1
                  rw [hm1] at y1; cases y1
                  have hB := z1.putObj (x1 := .loop { r1 with state := .busy }) hl1 (by simp) hm1 y2 (o := .loop { lp1 with state := .busy }) (fun hnew =>
                    ⟨_, _, _, hm1, y2, hnew, rfl, y6, y7, y8, y9, y10, y11⟩)
                  refine ⟨_, run_beginRound y3 (by rw [y5]; exact isReady_eq hrd1), ?_⟩
                  rw [q9]
                  refine xcodeM_sound hH hmix (wide_round hW g) r0.body ⟨s1.tm, s1.ds, _, s1.nx⟩ e s2 hbody O _ w m m1 top _ _ hB z3 (hrdok.mono z2) fun a2 w2 m2 x1 x2 x3 => ?_
                  have hm2 := x2 _ _ hm1
                  obtain ⟨g2, c2, lp2, u1, u2, u3, u5, u6, u7, u8, u9, u10, u11⟩ := x1.hst b _ hl2
                  rw [hm2] at u1; cases u1
                  have fin : ∀ (j : Option Code) (ls : LoopState), ls = (if j.isNone then .ready else .done) → RelM O w m top (fun b => s2.nx ≤ b) m2 r0.sz s2.tm ((b, .loop { r2 with state := ls, pending := j }) :: s2.st) a2 (w2.putObj g (.loop { lp2 with state := (if j.isNone then .ready else .done), pending := j })) := by
                    intro j ls hls
                    subst hls
                    exact x1.putObj hl2 (by simp) hm2 u2 (fun hnew =>
                      ⟨_, _, _, hm2, u2, hnew, rfl, rfl, u7, u8, u9, u10, u11⟩)
                  cases e with
                  | normal =>
                    simp only [kSB_eq] at hx
                    cases hx
                    exact ⟨_, _, run_endRound none u3, _, m2, rfl, ((fin none .ready rfl).sweep _ _).heap, rfl⟩
                  | exit i =>
                    simp only [kSB_eq] at hx
                    cases hx
                    exact ⟨_, _, run_endRound (some (.exit i)) u3, _, m2, rfl, ((fin (some (.exit i)) .done rfl).sweep _ _).heap, rfl⟩
                  | ret =>
                    simp only [kSB_eq] at hx
                    cases hx
                    exact ⟨_, _, run_endRound (some .ret) u3, _, m2, rfl, ((fin (some .ret) .done rfl).sweep _ _).heap, rfl⟩
                · cases hx
            · cases hx
          · cases hx
        · cases hx
    · cases hx
  · cases hx
end

def chkW (top : Nat) : Option (W × SB × Nat) → Option (W × SB × Nat)
  | some (v, st, t) => match Nat.ble top t with
    | true => some (v, st, t)
    | false => none
  | none => none
def chkD (top : Nat) : Option (SB × Nat) → Option (SB × Nat)
  | some (st, t) => match Nat.ble top t with
    | true => some (st, t)
    | false => none
  | none => none
theorem chkW_eq {top : Nat} {r : Option (W × SB × Nat)} {v : W} {st : SB} {t : Nat} (h : chkW top r = some (v, st, t)) : r = some (v, st, t) ∧ top ≤ t := by
  unfold chkW at h
  split at h
  · next v' st' t' =>
    split at h
    · next hb => cases h; exact ⟨rfl, Nat.le_of_ble_eq_true hb⟩
    · cases h
  · cases h
theorem chkD_eq {top : Nat} {r : Option (SB × Nat)} {st : SB} {t : Nat} (h : chkD top r = some (st, t)) : r = some (st, t) ∧ top ≤ t := by
  unfold chkD at h
  split at h
  · next st' t' =>
    split at h
    · next hb => cases h; exact ⟨rfl, Nat.le_of_ble_eq_true hb⟩
    · cases h
  · cases h

/-- Calls, to a depth: of functions (true), deferred (false). -/
def runM (P : Program) (G : XG) (fuel : Nat) : Nat → WH × WD
  | 0 => (fun _ _ _ _ => none, fun _ _ _ _ => none)
  | n + 1 => (fun c avs st top => match c with
      | .fn g caps => match G g with
        | some fn => match fn.body with
          | some code => chkW top (xfnM P (runM P G fuel n).1 (runM P G fuel n).2 fuel fn code (avs ++ caps) st top)
          | none => none
        | none => none
      | .yld b => chkW top (xroundM P (runM P G fuel n).1 fuel b avs st top)
      | _ => none,
    fun g avs st top => match G g with
      | some fn => match fn.body with
        | some code => chkD top (xdefM P (runM P G fuel n).1 fuel fn code avs st top)
        | none => none
      | none => none)

section
variable {P : Program} {G : XG}
theorem runM_ok (hG : GOK P G) (hmix : P.follows .mixedOrders = true) (fuel : Nat) : ∀ n, HOK P (runM P G fuel n).1 ∧ HDOK P (runM P G fuel n).2
  | 0 => ⟨fun _ _ _ _ _ _ _ h => (by cases h), fun _ _ _ _ _ _ h => (by cases h)⟩
  | n + 1 => by
    obtain ⟨ih1, ih2⟩ := runM_ok hG hmix fuel n
    refine ⟨?_, ?_⟩
    · intro c avs st top r st' top' h
      simp only [runM] at h
      split at h
      · next g caps =>
        split at h
        · next fn hg =>
          split at h
          · next code hb =>
            obtain ⟨h1, h2⟩ := chkW_eq h
            exact ⟨h2, (hG g fn hg).2, xfnM_ok ih1 ih2 hmix (hG g fn hg).1 hb h1⟩
          · cases h
        · cases h
      · next b =>
        obtain ⟨h1, h2⟩ := chkW_eq h
        exact ⟨h2, xroundM_ok ih1 hmix h1⟩
      · cases h
    · intro g avs st top st' top' h
      simp only [runM] at h
      split at h
      · next fn hg =>
        split at h
        · next code hb =>
          obtain ⟨h1, h2⟩ := chkD_eq h
          exact ⟨h2, (hG g fn hg).2, xdefM_ok ih1 hmix (hG g fn hg).1 hb h1⟩
        · cases h
      · cases h

/-- What a call without arguments returns. -/
def valM (P : Program) (G : XG) (fuel n : Nat) (f : FuncId) : Option W := match (runM P G fuel n).1 (.fn f []) [] [] 0 with
  | some (v, _, _) => some v
  | none => none

/-- A FUNCTION WITHOUT ARGUMENTS, RUN: true or false. -/
theorem has_mi (hG : GOK P G) (hmix : P.follows .mixedOrders = true) {fuel n : Nat} {f : FuncId} {q : Bool} (h : valM P G fuel n f = some (.v (.bool q))) (hf : (G f).isSome = true) :
    Has P f { α := Unit, enc := fun _ => [], ok := fun _ => True, res := fun _ => .v (.bool q) } := by
  obtain ⟨fn, hfn⟩ := Option.isSome_iff_exists.1 hf
  refine ⟨?_, (hG f fn hfn).2⟩
  show SoundV P f _
  intro x F w vs hF hv _
  have hv0 : vs = [] := by
    cases vs with
    | nil => rfl
    | cons v vs => simp [RCs] at hv
  subst hv0
  unfold valM at h
  split at h
  · next v st nx h1 =>
    cases h
    obtain ⟨_, _, hok⟩ := (runM_ok hG hmix fuel n).1 _ _ _ _ _ _ _ h1
    have hR : RelH (fun k => w.heap.size ≤ k) w (fun _ => none) 0 0 (fun _ => none) [] w :=
      { htm := fun i => trivial, hsz := rfl, hst := fun b x hx => by simp at hx, inj := fun b b' g c c' _ _ hm => (by cases hm), fresh := fun b _ => ⟨rfl, rfl⟩, un := fun b _ => Nat.zero_le _, mlt := fun b g c hm => (by cases hm), pin := fun b y e => (by cases e), low := fun b g e => (by cases e), below := Own.refl _ _, hb := fun _ e => e }
    refine (hok _ _ w [] hR trivial).mono ?_
    rintro e w' ⟨x, m', rfl, hR', hr⟩
    have hbl : Below w.heap.size w w' := hR'.below.below
    have hr : x = .bool q := hr
    subst hr
    exact ⟨_, F, rfl, hbl, fun _ _ e => e, fun _ _ e => .inl e, fun g j e => Nat.lt_of_lt_of_le (hF g j e) hbl.size, rfl⟩
  · cases h
end
end
end Go.Ev.Mi
