/- A part of the proof of TowConflicts. -/
import Derived.Carry
import Derived.Deep.LoopGhost
import Derived.OpenShut
import Derived.OrdersIn
import Derived.ProofKit
import Derived.SizedLaws
import Derived.Sort.LoopGhostIn
import Derived.Test.YtignohgoodffbacW1
/- A run of the model follows the evaluator: calls, code, functions. -/
set_option linter.unusedVariables false
set_option linter.unusedSimpArgs false
namespace Go.Ev
open Go.RowKit

theorem renP_RP {r : List (Nat × Nat)} {m : MP} {F : FZ} {H : Array Obj} {c c' : V} {x : Value} (h : renP r c = some c') (hx : RP m F H c' x) : RP (fun b => (look r b).bind m) F H c x := by
  cases c
  case box b off =>
    simp only [renP, Option.map_eq_some_iff] at h
    obtain ⟨b', hb, rfl⟩ := h
    obtain ⟨g, c, h1, h2⟩ := hx
    exact ⟨g, c, by simp [hb, h1], h2⟩
  case osl b n =>
    simp only [renP, Option.map_eq_some_iff] at h
    obtain ⟨b', hb, rfl⟩ := h
    rcases hx with ⟨g, c, h1, h2⟩ | hx
    · exact .inl ⟨g, c, by simp [hb, h1], h2⟩
    · exact .inr hx
  case yld b =>
    simp only [renP, Option.map_eq_some_iff] at h
    obtain ⟨b', hb, rfl⟩ := h
    obtain ⟨g, c, h1, h2⟩ := hx
    exact ⟨g, c, by simp [hb, h1], h2⟩
  all_goals (simp only [renP, Option.some.injEq] at h; subst h; exact hx)

theorem mapM_get {α β : Type} {f : α → Option β} : ∀ {l : List α} {l' : List β}, l.mapM f = some l' → l.length = l'.length ∧ ∀ (i : Nat) (c : α), l[i]? = some c → ∃ c', l'[i]? = some c' ∧ f c = some c'
  | [], l', h => by simp at h; subst h; simp
  | c :: l, l', h => by
    simp only [List.mapM_cons, Option.bind_eq_bind, Option.bind_eq_some_iff, Option.pure_def, Option.some.injEq] at h
    obtain ⟨c', hc, l2, hl, rfl⟩ := h
    obtain ⟨h1, h2⟩ := mapM_get hl
    refine ⟨by simp [h1], fun i d hd => ?_⟩
    cases i with
    | zero => simp at hd; subst hd; exact ⟨c', by simp, hc⟩
    | succ i => simpa using h2 i d (by simpa using hd)

theorem renV_RV {r : List (Nat × Nat)} {m : MP} {F : FZ} {H : Array Obj} {c c' : V} {x : Value} (h : renV r c = some c') (hx : RV m F H c' x) : RV (fun b => (look r b).bind m) F H c x := by
  cases c
  case fn g caps =>
    simp only [renV, Option.map_eq_some_iff] at h
    obtain ⟨caps', hc, rfl⟩ := h
    obtain ⟨arr, rfl, h1, h2⟩ := hx
    obtain ⟨e1, e2⟩ := mapM_get hc
    refine ⟨arr, rfl, by omega, fun i c y hc hy => ?_⟩
    obtain ⟨c', h3, h4⟩ := e2 i c hc
    exact renP_RP h4 (h2 i c' y h3 hy)
  case ag cs =>
    simp only [renV, Option.map_eq_some_iff] at h
    obtain ⟨cs', hc, rfl⟩ := h
    obtain ⟨arr, rfl, h1, h2⟩ := hx
    obtain ⟨e1, e2⟩ := mapM_get hc
    refine ⟨arr, rfl, by omega, fun i c y hc hy => ?_⟩
    obtain ⟨c', h3, h4⟩ := e2 i c hc
    exact ⟨renP_RP h4 (h2 i c' y h3 hy).1, (h2 i c' y h3 hy).2⟩
  all_goals
    simp only [renV] at h
    refine RV.of_RP (renP_RP h ?_)
    revert hx
    revert h
    cases c' <;> simp [renP, RV] <;> (try (intros; assumption))

theorem look_mem {α : Type} : ∀ {l : List (Nat × α)} {i : Nat} {x : α}, look l i = some x → (i, x) ∈ l
  | [], _, _, h => by simp at h
  | (j, y) :: l, i, x, h => by
    rw [look_cons] at h
    split at h
    · next e => subst e; cases h; exact .head _
    · exact .tail _ (look_mem h)

theorem look_inj {r : List (Nat × Nat)} (h2 : (r.map (·.2)).Nodup) {b b' c : Nat} (hb : look r b = some c) (hb' : look r b' = some c) : b = b' := by
  have m1 := look_mem hb
  have m2 := look_mem hb'
  induction r with
  | nil => cases m1
  | cons p r ih =>
    simp only [List.map_cons, List.nodup_cons] at h2
    rw [look_cons] at hb hb'
    cases m1 with
    | head =>
      cases m2 with
      | head => rfl
      | tail _ m2 => exact absurd (List.mem_map.2 ⟨_, m2, rfl⟩) h2.1
    | tail _ m1 =>
      cases m2 with
      | head => exact absurd (List.mem_map.2 ⟨_, m1, rfl⟩) h2.1
      | tail _ m2 =>
        have n1 : p.1 ≠ b := by rintro rfl; rw [if_pos rfl] at hb; cases hb; exact h2.1 (List.mem_map.2 ⟨_, m1, rfl⟩)
        have n2 : p.1 ≠ b' := by rintro rfl; rw [if_pos rfl] at hb'; cases hb'; exact h2.1 (List.mem_map.2 ⟨_, m2, rfl⟩)
        rw [if_neg n1] at hb
        rw [if_neg n2] at hb'
        exact ih h2.2 hb hb' m1 m2


/-- The other way round. -/
theorem renP_back {r : List (Nat × Nat)} {m m1 : MP} (hr : ∀ b b', look r b = some b' → ∀ y, m1 b = some y → m b' = some y) {F : FZ} {H : Array Obj} {c c' : V} {x : Value} (h : renP r c = some c') (hx : RP m1 F H c x) : RP m F H c' x := by
  cases c
  case box b off =>
    simp only [renP, Option.map_eq_some_iff] at h
    obtain ⟨b', hb, rfl⟩ := h
    obtain ⟨g, c, h1, h2⟩ := hx
    exact ⟨g, c, hr b b' hb _ h1, h2⟩
  case osl b n =>
    simp only [renP, Option.map_eq_some_iff] at h
    obtain ⟨b', hb, rfl⟩ := h
    rcases hx with ⟨g, c, h1, h2⟩ | hx
    · exact .inl ⟨g, c, hr b b' hb _ h1, h2⟩
    · exact .inr hx
  case yld b =>
    simp only [renP, Option.map_eq_some_iff] at h
    obtain ⟨b', hb, rfl⟩ := h
    obtain ⟨g, c, h1, h2⟩ := hx
    exact ⟨g, c, hr b b' hb _ h1, h2⟩
  all_goals (simp only [renP, Option.some.injEq] at h; subst h; exact hx)

theorem RP.of_RV {m : MP} {F : FZ} {H : Array Obj} {c : V} {x : Value} (hc : notFn c = true) (h : RV m F H c x) : RP m F H c x := by
  cases c <;> first | exact h | cases hc

theorem renV_back {r : List (Nat × Nat)} {m m1 : MP} (hr : ∀ b b', look r b = some b' → ∀ y, m1 b = some y → m b' = some y) {F : FZ} {H : Array Obj} {c c' : V} {x : Value} (h : renV r c = some c') (hx : RV m1 F H c x) : RV m F H c' x := by
  cases c
  case fn g caps =>
    simp only [renV, Option.map_eq_some_iff] at h
    obtain ⟨caps', hc, rfl⟩ := h
    obtain ⟨arr, rfl, h1, h2⟩ := hx
    obtain ⟨e1, e2⟩ := mapM_get hc
    refine ⟨arr, rfl, by omega, fun i c y hc' hy => ?_⟩
    have hi : i < caps.length := by rw [e1]; exact (List.getElem?_eq_some_iff.1 hc').1
    obtain ⟨c2, h3, h4⟩ := e2 i caps[i] (List.getElem?_eq_getElem hi)
    rw [hc'] at h3; cases h3
    exact renP_back hr h4 (h2 i caps[i] y (List.getElem?_eq_getElem hi) hy)
  case ag cs =>
    simp only [renV, Option.map_eq_some_iff] at h
    obtain ⟨cs', hc, rfl⟩ := h
    obtain ⟨arr, rfl, h1, h2⟩ := hx
    obtain ⟨e1, e2⟩ := mapM_get hc
    refine ⟨arr, rfl, by omega, fun i c y hc' hy => ?_⟩
    have hi : i < cs.length := by rw [e1]; exact (List.getElem?_eq_some_iff.1 hc').1
    obtain ⟨c2, h3, h4⟩ := e2 i cs[i] (List.getElem?_eq_getElem hi)
    rw [hc'] at h3; cases h3
    exact ⟨renP_back hr h4 (h2 i cs[i] y (List.getElem?_eq_getElem hi) hy).1, (h2 i cs[i] y (List.getElem?_eq_getElem hi) hy).2⟩
  all_goals
    simp only [renV] at h
    exact RV.of_RP (renP_back hr h hx)

theorem RBx.ren {r : List (Nat × Nat)} {O O' : Nat → Prop} {m : MP} {F : FZ} {H : Array Obj} {b b' : Nat} {x y : Bx} (h : look r b = some b') (hx : renX r x = some y) (hy : RBx O m F H b' y)
    (hO : ∀ g k, m b' = some (g, k) → O' g) : RBx O' (fun b => (look r b).bind m) F H b x := by
  cases x with
  | var cs f =>
    simp only [renX, Option.map_eq_some_iff] at hx
    obtain ⟨cs', hm, rfl⟩ := hx
    obtain ⟨g, c, arr, ty, q1, q2, q3, q4, q5, q6⟩ := hy
    obtain ⟨l1, l2⟩ := mapM_get hm
    refine ⟨g, c, arr, ty, by simp [h, q1], hO _ _ q1, q3, ⟨by rw [l1]; exact q4.1, fun i c x hc hx => ?_⟩, q5, fun hf j hj => q6 hf j (by omega)⟩
    obtain ⟨c', hc', hr⟩ := l2 i c hc
    exact ⟨renV_RV hr (q4.2 i c' x hc' hx).1, (q4.2 i c' x hc' hx).2⟩
  | row e size cs p =>
    simp only [renX, Option.some.injEq] at hx
    subst hx
    rcases hy with ⟨g, cap, cur, q1, q2, q⟩ | ⟨q1, q⟩
    · exact .inl ⟨g, cap, cur, by simp [h, q1], hO _ _ q1, q⟩
    · exact .inr ⟨by simp [h, q1], q⟩
  | loop r => cases hx
  | mark p => cases hx
  | dead => trivial
  | nest e e2 s2 cs hole =>
    simp only [renX, Option.some.injEq] at hx
    subst hx
    rcases hy with ⟨g, cap, cur, q1, q2, q⟩ | ⟨q1, q⟩
    · exact .inl ⟨g, cap, cur, by simp [h, q1], hO _ _ q1, q⟩
    · exact .inr ⟨by simp [h, q1], q⟩

theorem RBx.back {r : List (Nat × Nat)} {O O' : Nat → Prop} {m m1 : MP} (hr : ∀ b b', look r b = some b' → ∀ y, m1 b = some y → m b' = some y) {F : FZ} {H : Array Obj} {b b' : Nat} {x y : Bx} (h : look r b = some b') (hx : renX r x = some y)
    (hb : RBx O m1 F H b x) (hO : ∀ g, O g → O' g) (hrow : ∀ e size cs p, x ≠ .row e size cs p) (hnest : isNest x = false) : RBx O' m F H b' y := by
  cases x with
  | var cs f =>
    simp only [renX, Option.map_eq_some_iff] at hx
    obtain ⟨cs', hm, rfl⟩ := hx
    obtain ⟨g, c, arr, ty, q1, q2, q3, q4, q5, q6⟩ := hb
    obtain ⟨l1, l2⟩ := mapM_get hm
    refine ⟨g, c, arr, ty, hr b b' h _ q1, hO _ q2, q3, ⟨by rw [← l1]; exact q4.1, fun i c' x hc hx => ?_⟩, q5, fun hf j hj => q6 hf j (by omega)⟩
    have hi : i < cs.length := by rw [l1]; exact (List.getElem?_eq_some_iff.1 hc).1
    obtain ⟨c2, h3, h4⟩ := l2 i cs[i] (List.getElem?_eq_getElem hi)
    rw [hc] at h3; cases h3
    have := q4.2 i cs[i] x (List.getElem?_eq_getElem hi) hx
    exact ⟨renV_back hr h4 this.1, this.2⟩
  | row e size cs p =>
    exact absurd rfl (hrow _ _ _ _)
  | loop r => cases hx
  | mark p => cases hx
  | dead => simp only [renX, Option.some.injEq] at hx; subst hx; trivial
  | nest e e2 s2 cs hole => cases hnest

section
variable {P : Program} {C : FuncId → Option Con}

def EntersOK (P : Program) (f : FuncId) : Prop := ∀ (args : Array Value) (w : World), (callFunc f args).run P w = .ok (.enter f args) w

theorem enters_ok {f : FuncId} {fn : Func} (hf : P.funcs[f]? = some fn) (hname : (fn.name == "runtime.NumGoroutine") = false) (hb : fn.body.isNone = false) : EntersOK P f := by
  intro args w
  cases hbb : fn.body with
  | none => simp [hbb] at hb
  | some c =>
    have hn : fn.name ≠ "runtime.NumGoroutine" := by simpa using hname
    simp [callFunc, hf, hn, hbb]

/-- The contracts at hand hold. -/
def CtxOK (P : Program) (C : FuncId → Option Con) : Prop := ∀ g c, C g = some c → Sound P g c ∧ EntersOK P g

theorem Rel.laterN {O : Nat → Prop} {w0 : World} {F0 : FZ} {M0 : MP} {D : List Deferred} {U : Nat → Prop} {F F' : FZ} {m : MP} {sz : Nat} {tm : TM} {st : ST} {a : Act} {w w' : World} (h : Rel O w0 F0 M0 D U F m sz tm st a w)
    {L : Nat → Nat → Nat → Prop} (hL : NOK O F m st w.heap L) (hb : Below w.heap.size w w') (e1 : ∀ g j, F g j → F' g j) (e2 : ∀ g j, F' g j → F g j ∨ w.heap.size ≤ g) : NOK O F' m st w'.heap L :=
  hL.mono e1 (fun g j hj => by rw [cellsAt_congr (hb.block g (h.f2 g j hj))]) hb.size (fun g b i hg => ⟨hb.block g (hL.lo g b i hg).2.1, fun j hj => (e2 g j hj).elim id fun e => absurd (hL.lo g b i hg).2.1 (by omega)⟩) hL.al
    (fun b x hx => .inr (.inr ⟨hx, fun g c hm => ⟨hm, hb.block g (h.mlt _ _ _ hm)⟩⟩))

/-- No list of lists reaches a block that is new. -/
theorem Rel.later_free {O : Nat → Prop} {w0 : World} {F0 : FZ} {M0 : MP} {D : List Deferred} {U : Nat → Prop} {F F' : FZ} {m : MP} {sz : Nat} {tm : TM} {st : ST} {a : Act} {w w' : World} (h : Rel O w0 F0 M0 D U F m sz tm st a w)
    (hb : Below w.heap.size w w') (e1 : ∀ g j, F g j → F' g j) (e2 : ∀ g j, F' g j → F g j ∨ w.heap.size ≤ g) {g : Nat} (hg : w.heap.size ≤ g) : ∃ L, NOK O F' m st w'.heap L ∧ ∀ b i, ¬ L g b i := by
  obtain ⟨L, hL⟩ := h.nst
  exact ⟨L, h.laterN hL hb e1 e2, fun b i hl => absurd (hL.lo g b i hl).2.1 (by omega)⟩

/-- Behind a call. -/
theorem Rel.later {O : Nat → Prop} {w0 : World} {F0 : FZ} {M0 : MP} {D : List Deferred} {U : Nat → Prop} {F F' : FZ} {m : MP} {sz : Nat} {tm : TM} {st : ST} {a : Act} {w w' : World} (h : Rel O w0 F0 M0 D U F m sz tm st a w)
    (hb : Below w.heap.size w w') (e1 : ∀ g j, F g j → F' g j) (e2 : ∀ g j, F' g j → F g j ∨ w.heap.size ≤ g) (e3 : ∀ g j, F' g j → g < w'.heap.size) :
    Rel O w0 F0 M0 D U F' m sz tm st a w' := by
  have hk : Keeps F w.heap w'.heap := fun g j hj => by rw [cellsAt_congr (hb.block g (h.f2 g j hj))]
  refine { htm := fun i => (h.htm i).mono (fun _ _ e => e) e1 hk, hsz := h.hsz, hde := h.hde, hst := ?_, inj := h.inj, fresh := h.fresh, pin := h.pin, keep := fun g j hj => (hk g j (h.f0 _ _ hj)).trans (h.keep g j hj), f0 := fun _ _ e => e1 _ _ (h.f0 _ _ e), f1 := ?_, f2 := e3, mlt := ?_, below := h.below.trans ⟨hb.os, hb.tape, hb.output, hb.size, fun k hk => hb.block k (Nat.lt_of_not_le fun e => hk (h.hb _ (Nat.le_trans h.below.size e)))⟩, hb := h.hb, nst := h.nst.imp fun L hL => h.laterN hL hb e1 e2 }
  · intro b x hx
    refine (h.hst b x hx).mono (fun _ _ e => e) e1 hk (fun g c hg => ⟨hb.block g (h.mlt _ _ _ hg), fun j hj => ?_⟩) id
    rcases e2 g j hj with e | e
    · exact e
    · exact absurd (h.mlt _ _ _ hg) (by omega)
  · intro g j hj
    rcases e2 g j hj with e | e
    · exact h.f1 _ _ e
    · exact .inr (h.hb _ (Nat.le_trans h.below.size e))
  · intro b g c hg
    exact Nat.lt_of_lt_of_le (h.mlt _ _ _ hg) hb.size

theorem ownR_sound {O : Nat → Prop} {w0 : World} {F0 : FZ} {M0 : MP} {D : List Deferred} {U : Nat → Prop} {m : MP} {sz : Nat} {tm : TM} {a : Act} {w : World} : ∀ (os : List Bool) (cs : List V) (xs : List Value) (k : List V → RM) (st : ST) (F : FZ) (K : V → ST → Prop),
    Rel O w0 F0 M0 D U F m sz tm st a w → cs.length = xs.length → (∀ (i : Nat) (c : V) (x : Value), cs[i]? = some c → xs[i]? = some x → RV m F w.heap c x) → (ownR os cs k).go st K →
    ∃ F' st' cs', Rel O w0 F0 M0 D U F' m sz tm st' a w ∧ (∀ g j, F g j → F' g j) ∧ cs'.length = xs.length ∧ (∀ (i : Nat) (c : V) (x : Value), cs'[i]? = some c → xs[i]? = some x → RV m F' w.heap c x) ∧ (k cs').go st' K
  | [], cs, xs, k, st, F, K, h, hl, hv, hg => by
    simp only [ownR] at hg
    obtain ⟨F1, st1, cs1, r1, e1, r2, r3, _⟩ := mapRM_sound (fz_sound 4) cs xs k st F K h hl hv hg
    exact ⟨F1, st1, cs1, r1, e1, RCs_length r2, fun i c x hc hx => RV.of_RC ((RCs_iff.1 r2).2 i c x hc hx).1, r3⟩
  | _ :: _, [], xs, k, st, F, K, h, hl, hv, hg => ⟨F, st, [], h, fun _ _ e => e, hl, by simp, hg⟩
  | _ :: _, _ :: _, [], _, _, _, _, _, hl, _, _ => by simp at hl
  | true :: os, c :: cs, x :: xs, k, st, F, K, h, hl, hv, hg => by
    simp only [ownR] at hg
    obtain ⟨F1, st1, cs1, r1, e1, l1, r2, r3⟩ := ownR_sound os cs xs _ st F K h (by simpa using hl) (fun i c' x' hc hx => hv (i + 1) c' x' (by simpa using hc) (by simpa using hx)) hg
    refine ⟨F1, st1, c :: cs1, r1, e1, by simp [l1], fun i c' x' hc hx => ?_, r3⟩
    cases i with
    | zero => simp at hc hx; subst hc hx; exact (hv 0 c x rfl rfl).mono (fun _ _ e => e) e1 (Keeps.refl _ _)
    | succ i => exact r2 i c' x' (by simpa using hc) (by simpa using hx)
  | false :: os, c :: cs, x :: xs, k, st, F, K, h, hl, hv, hg => by
    simp only [ownR] at hg
    obtain ⟨F0', st0, c0, r0, e0, q0, g0, _⟩ := fz_sound 4 c x _ st F K h (hv 0 c x rfl rfl) hg
    obtain ⟨F1, st1, cs1, r1, e1, l1, r2, r3⟩ := ownR_sound os cs xs _ st0 F0' K r0 (by simpa using hl)
      (fun i c' x' hc hx => (hv (i + 1) c' x' (by simpa using hc) (by simpa using hx)).mono (fun _ _ e => e) e0 (Keeps.refl _ _)) g0
    refine ⟨F1, st1, c0 :: cs1, r1, fun g j e => e1 _ _ (e0 _ _ e), by simp [l1], fun i c' x' hc hx => ?_, r3⟩
    cases i with
    | zero => simp at hc hx; subst hc hx; exact (RV.of_RC q0).mono (fun _ _ e => e) e1 (Keeps.refl _ _)
    | succ i => exact r2 i c' x' (by simpa using hc) (by simpa using hx)

theorem getsR_go {r : List (Nat × Nat)} {k : RM} {K : V → ST → Prop} {st : ST} : ∀ (bs : List Nat) (ps : List Bx), (getsR r bs ps k).go st K →
    bs.length = ps.length ∧ k.go st K ∧ ∀ (i : Nat) (p : Bx), ps[i]? = some p → p ≠ .dead ∧ (∀ e size cs q, p ≠ .row e size cs q) ∧ isNest p = false ∧ ∃ b y, bs[i]? = some b ∧ look st b = some y ∧ renX r p = some y
  | [], [], h => ⟨rfl, h, by simp⟩
  | [], _ :: _, h => by simp [getsR, RM.go] at h
  | _ :: _, [], h => by simp [getsR, RM.go] at h
  | b :: bs, p :: ps, h => by
    have hd : p ≠ .dead := by rintro rfl; simp [getsR, RM.go] at h
    have hw : ∀ e size cs q, p ≠ .row e size cs q := by rintro e size cs q rfl; simp [getsR, RM.go] at h
    have hv : isNest p = false := by cases p <;> first | rfl | (simp [getsR, RM.go] at h)
    have h' : (RM.get b fun y => .req (renX r p = some y) (getsR r bs ps k)).go st K := by
      cases p with
      | dead => exact absurd rfl hd
      | var cs f => exact h
      | row e size cs q => exact absurd rfl (hw _ _ _ _)
      | loop r => exact h
      | mark q => exact h
      | nest e e2 s2 cs hole => cases hv
    simp only [RM.go] at h'
    split at h'
    · next y hy =>
      obtain ⟨h1, h2, h3⟩ := getsR_go bs ps h'.2
      refine ⟨by simp [h1], h2, fun i q hq => ?_⟩
      cases i with
      | zero => simp at hq; subst hq; exact ⟨hd, hw, hv, b, y, rfl, hy, h'.1⟩
      | succ i => simpa using h3 i q (by simpa using hq)
    · cases h'

theorem putsR_go {r : List (Nat × Nat)} {k : RM} {K : V → ST → Prop} : ∀ (bs : List Nat) (ps : List Bx) (st : ST), (putsR r bs ps k).go st K →
    bs.length = ps.length ∧ ∃ st', k.go st' K ∧ (∀ b, b ∉ bs → look st' b = look st b) ∧ (bs.Nodup → ∀ (i : Nat) (b : Nat), bs[i]? = some b → ∃ p y, ps[i]? = some p ∧ look st' b = some y ∧ renX r p = some y ∧ (∀ e size cs q, p ≠ .row e size cs q) ∧ isNest p = false)
  | [], [], st, h => ⟨rfl, st, h, fun _ _ => rfl, by simp⟩
  | [], _ :: _, _, h => by simp [putsR, RM.go] at h
  | _ :: _, [], _, h => by simp [putsR, RM.go] at h
  | b :: bs, p :: ps, st, h => by
    have hw : ∀ e size cs q, p ≠ .row e size cs q := by rintro e size cs q rfl; simp [putsR, RM.go] at h
    have hv : isNest p = false := by cases p <;> first | rfl | (simp [putsR, RM.go] at h)
    have h' : (match renX r p with
      | some y => RM.put b y (putsR r bs ps k)
      | none => RM.fail).go st K := by
      cases p with
      | row e size cs q => exact absurd rfl (hw _ _ _ _)
      | dead => exact h
      | var cs f => exact h
      | loop r => exact h
      | mark q => exact h
      | nest e e2 s2 cs hole => cases hv
    replace h := h'
    split at h
    · next y hy =>
      simp only [RM.go] at h
      obtain ⟨h1, st', h2, h3, h4⟩ := putsR_go bs ps _ h
      refine ⟨by simp [h1], st', h2, fun b' hb' => ?_, fun hn i b' hb' => ?_⟩
      · simp only [List.mem_cons, not_or] at hb'
        rw [h3 b' hb'.2, look_cons, if_neg (fun e => hb'.1 e.symm)]
      · rw [List.nodup_cons] at hn
        cases i with
        | zero =>
          simp at hb'
          subst hb'
          exact ⟨p, y, rfl, by rw [h3 _ hn.1, look_cons, if_pos rfl], hy, hw, hv⟩
        | succ i => simpa using h4 hn.2 i b' (by simpa using hb')
    · simp [RM.go] at h

theorem look_zip : ∀ (bs : List Nat) (k i : Nat), look (((List.range' k bs.length)).zip bs) i = if k ≤ i then bs[i - k]? else none
  | [], k, i => by simp
  | c :: bs, k, i => by
    simp only [List.length_cons, List.range'_succ, List.zip_cons_cons, look_cons, look_zip bs (k + 1) i]
    by_cases h : k = i
    · subst h; simp
    · rw [if_neg h]
      by_cases h2 : k + 1 ≤ i
      · rw [if_pos h2, if_pos (by omega)]
        have : i - k = i - (k + 1) + 1 := by omega
        rw [this, List.getElem?_cons_succ]
      · rw [if_neg h2, if_neg (by omega)]

theorem look_idx (bs : List Nat) (i : Nat) : look (idx bs) i = bs[i]? := by
  unfold idx
  rw [List.range_eq_range', look_zip bs 0 i]
  simp

theorem RBx.at {O : Nat → Prop} {m : MP} {F : FZ} {H : Array Obj} {b : Nat} {x : Bx} (hx : x ≠ .dead) (hrow : ∀ e size cs p, x ≠ .row e size cs p) (hnest : isNest x = false) (h : RBx O m F H b x) : ∃ g c, m b = some (g, c) ∧ O g := by
  cases x with
  | var cs f => obtain ⟨g, c, arr, ty, q1, q2, q⟩ := h; exact ⟨g, c, q1, q2⟩
  | row e size cs p => exact absurd rfl (hrow _ _ _ _)
  | loop r => obtain ⟨g, c, l, h1, h2, _⟩ := h; exact ⟨g, c, h1, h2⟩
  | mark p => obtain ⟨g, c, h1, h2, _⟩ := h; exact ⟨g, c, h1, h2⟩
  | dead => exact absurd rfl hx
  | nest e e2 s2 cs hole => cases hnest

/-- Behind a call that wrote to boxes. -/
theorem Rel.laterE {O O' : Nat → Prop} {w0 : World} {F0 : FZ} {M0 : MP} {D : List Deferred} {U : Nat → Prop} {F F' : FZ} {m : MP} {sz : Nat} {tm : TM} {st st' : ST} {a : Act} {w w' : World} (h : Rel O w0 F0 M0 D U F m sz tm st a w)
    (hO : ∀ g, O' g → O g) (hb : Own O' w w') (hk : Keeps F w.heap w'.heap) (e1 : ∀ g j, F g j → F' g j) (e2 : ∀ g j, F' g j → F g j ∨ O' g) (e3 : ∀ g j, F' g j → g < w'.heap.size)
    (hst : ∀ b x, look st' b = some x → x = .dead ∨ (look st b = some x ∧ ∀ g c, m b = some (g, c) → ¬ O' g) ∨ (RBx O m F' w'.heap b x ∧ isNest x = false)) (hLO : ∀ L, NOK O F m st w.heap L → ∀ g b i, L g b i → ¬ O' g)
    (hal : ∀ b, aliveB st' b → aliveB st b) (hno : ∀ b, look st b = none → look st' b = none) :
    Rel O w0 F0 M0 D U F' m sz tm st' a w' := by
  refine { htm := fun i => (h.htm i).mono (fun _ _ e => e) e1 hk, hsz := h.hsz, hde := h.hde, hst := ?_, inj := fun b b' g c c' a1 a2 => h.inj b b' g c c' (hal _ a1) (hal _ a2), fresh := fun b hU => ⟨hno b (h.fresh b hU).1, (h.fresh b hU).2⟩, pin := h.pin, keep := fun g j hj => (hk g j (h.f0 _ _ hj)).trans (h.keep g j hj), f0 := fun _ _ e => e1 _ _ (h.f0 _ _ e), f1 := ?_, f2 := e3, mlt := ?_, below := h.below.trans (hb.mono hO), hb := h.hb, nst := h.nst.imp fun L hL => hL.mono e1 hk hb.size (fun g b i hg => ⟨hb.block g (hLO L hL g b i hg), fun j hj => (e2 g j hj).elim id fun e => absurd e (hLO L hL g b i hg)⟩) (fun b g c ha => hL.al b g c (hal _ ha)) (fun b x hx => ?_) }
  rotate_left 3
  · rcases hst b x hx with rfl | ⟨e, hn⟩ | e
    · exact .inl rfl
    · exact .inr (.inr ⟨e, fun g c hm => ⟨hm, hb.block g (hn g c hm)⟩⟩)
    · exact .inl e.2
  · intro b x hx
    rcases hst b x hx with rfl | ⟨e, hn⟩ | ⟨e, _⟩
    · trivial
    · refine (h.hst b x e).mono (fun _ _ e => e) e1 hk (fun g c hg => ⟨hb.block g (hn g c hg), fun j hj => ?_⟩) id
      rcases e2 g j hj with e | e
      · exact e
      · exact absurd e (hn g c hg)
    · exact e
  · intro g j hj
    rcases e2 g j hj with e | e
    · exact h.f1 _ _ e
    · exact .inr (hO _ e)
  · intro b g c hg
    exact Nat.lt_of_lt_of_le (h.mlt _ _ _ hg) hb.size

theorem callsIn_of_calls {FF : Fence} (hW : Wide FF) {n : Nat} {f : FuncId} {args : Array Value} {w : World} {R : Ending → World → Prop} (h : Calls P f args w R) : CallsIn FF n P f args w R := by
  refine ⟨hW.fn f, fun cs _ => ?_⟩
  obtain ⟨e, w', fr, r, s, x⟩ := h cs
  refine ⟨e, w', fr, r, ?_, x⟩
  have hI : ∀ m : Machine, (Machine.fenced P Fence.wide) m → (Machine.fenced P FF) m := by
    intro m _ g _
    refine ⟨fun h => ?_, .inl (hW.fn _), fun f _ => hW.fn f, fun d hd => ?_⟩
    · rw [hW.al] at h; cases h
    · rw [hW.dep] at hd; cases hd
  have s' := comesIn_wide.2 s
  cases e with
  | returned v => exact StepsIn.mono hI s'
  | panicked c => exact StepsIn.mono hI s'
  | outgrown => exact s'

theorem call_ok (hC : CtxOK P C) {o : Oper} {f : Operand} {args : Array Operand} {ts : Array TypeId} (ho : o.op = .call { callee := .value f, args := args, argTypes := ts }) : OpOK P C o := by
  intro O w0 F0 M0 D U F m sz tm st a w id K next Q h hU hd hg hn
  have hf := h.ev f
  simp only [ho, opR] at hg
  split at hg
  · next g caps hb =>
    rw [hb] at hf
    obtain ⟨arr, hf', hl, hv⟩ := hf
    split at hg
    · next c hc =>
      obtain ⟨hsound, henter⟩ := hC g c hc
      obtain ⟨hal, hav⟩ := args_rel h args.toList
      have hlen : (args.toList.map (ev tm) ++ caps).length = (args.toList.map a.eval ++ arr.toList).length := by
        rw [List.length_append, List.length_append, hal, hl]
      have hval : ∀ (i : Nat) (c : V) (x : Value), (args.toList.map (ev tm) ++ caps)[i]? = some c → (args.toList.map a.eval ++ arr.toList)[i]? = some x → RV m F w.heap c x := by
        intro i c x hc hx
        by_cases hi : i < (args.toList.map (ev tm)).length
        · rw [List.getElem?_append_left hi] at hc
          rw [List.getElem?_append_left (by omega)] at hx
          exact hav i c x hc hx
        · rw [List.getElem?_append_right (by omega)] at hc
          rw [List.getElem?_append_right (by omega), ← hal] at hx
          exact RV.of_RP (hv _ c x hc hx)
      have hrun : (execOp a.eval o).run P w = .ok (.enter g (args.toList.map a.eval ++ arr.toList).toArray) w := by
        simp only [execOp, ho, resolve, Deferred.ofValue, hf', Sem.run_bind, Sem.run_pure, Result.andThen_ok, invoke]
        have e : (#[] ++ args.map a.eval ++ arr) = (args.toList.map a.eval ++ arr.toList).toArray := by
          apply Array.ext'
          simp
        rw [e, henter]
      intro FF hW
      refine ⟨fun f _ => hW.fn f, ?_⟩
      rw [Oper.semAt_eq _ _ _ (not_defer hrun (fun d e => by cases e)), hrun]
      refine ⟨fun e => (by rw [hW.dep] at e; cases e), (callsIn_of_calls hW ?_)⟩
      split at hg
      · next heff hfrs =>
        have hs : SoundV P g c := by have := hsound; simpa only [Sound, heff, hfrs] using this
        obtain ⟨F1, st1, avs, r1, e1, r2, r3, _⟩ := mapRM_sound (fz_sound 4) _ _ _ st F K h hlen hval hg
        obtain ⟨x, ⟨henc, hok⟩, hk⟩ := r3
        replace r2 := henc.le _ _ _ _ r2
        replace hk : (RM.retF (c.res x)).go st1 K := hk
        rw [RM.retF_eq] at hk
        refine (hs x F1 w _ r1.f2 r2 hok).mono ?_
        rintro e w' ⟨v, F', rfl, hbl, q1, q2, q3, q4⟩
        have hR := r1.later hbl q1 q2 q3
        exact hn F' m _ st1 _ _ ((hR.weakU fun _ e => e.1).put hd (RV.of_RC q4)) hk
      · next heff hfrs =>
        have hs : SoundV P g c ∧ ∀ (x : c.α) F H v F2 H2, RC F H (c.res x) v → RC F2 H2 (c.res x) v := by have := hsound; simpa only [Sound, heff, hfrs] using this
        obtain ⟨F1, st1, avs, r1, r2, r3⟩ := bz_map _ _ _ st F K h hlen hval hg
        obtain ⟨x, ⟨henc, hok⟩, hk⟩ := r3
        replace r2 := henc.le _ _ _ _ r2
        replace hk : (RM.retF (c.res x)).go st1 K := hk
        rw [RM.retF_eq] at hk
        refine (hs.1 x (fun g _ => g < w.heap.size) w _ (fun _ _ e => e) r2 hok).mono ?_
        rintro e w' ⟨v, F', rfl, hbl, q1, q2, q3, q4⟩
        have hR := r1.later (F' := fun g j => F1 g j ∨ (F' g j ∧ w.heap.size ≤ g)) hbl (fun _ _ => .inl) (fun g j e => e.imp (fun e => e) And.right) (fun g j e => e.elim (fun e => Nat.lt_of_lt_of_le (r1.f2 _ _ e) hbl.size) (fun e => q3 _ _ e.1))
        exact hn _ m _ st1 _ _ ((hR.weakU fun _ e => e.1).put hd (RV.of_RC (hs.2 x _ _ _ _ _ q4))) hk
      · next e size heff hfrs =>
        have hs : SoundF P g c e size := by have := hsound; simpa only [Sound, heff, hfrs] using this
        obtain ⟨F1, st1, avs, r1, e1, r2, r3, _⟩ := mapRM_sound (fz_sound 4) _ _ _ st F K h hlen hval hg
        obtain ⟨x, ⟨henc, hok⟩, hk⟩ := r3
        replace r2 := henc.le _ _ _ _ r2
        replace hk : (freshR id e size (c.res x)).go st1 K := hk
        unfold freshR at hk
        split at hk
        · next cs n hres =>
          refine (hs x F1 w _ cs n r1.f2 r2 hok hres).mono ?_
          rintro en w' ⟨v, F', rfl, hbl, q1, q2, q3, q4⟩
          have hR := r1.later hbl q1 q2 q3
          rcases q4 with ⟨g', cap, cur, p1, rfl, p2, p3, p4, p5, p6, p7, p8, p9⟩ | ⟨rfl, rfl, rfl⟩
          · have hA := hR.adoptA (id := id) (g := g') (cap := cap) (x := .row e size cs 0) hU (r1.hb _ (Nat.le_trans r1.below.size p1)) p4
              (fun b k c' _ hm => by have := r1.mlt _ _ _ hm; omega) (by simp) rfl (r1.later_free hbl q1 q2 p1) (fun m' hm' hid => .inl ⟨g', cap, cur, hid, r1.hb _ (Nat.le_trans r1.below.size p1), p5, p3, p6, p7, p8, fun j hj => absurd hj (p9 j), fun j hj => absurd hj (Nat.not_lt_zero _), Nat.zero_le _⟩)
            exact hn F' _ _ _ _ _ (hA.put hd (c := .osl id n) (.inl ⟨g', cap, by simp, p2, rfl⟩)) hk
          · have hA := hR.adoptNil (id := id) (e := e) (size := size) hU
            exact hn F' m _ _ _ _ (hA.put hd (c := .osl id 0) (.inr ⟨rfl, rfl⟩)) hk
        · cases hk
      · next e size heff hfrs =>
        have hs : SoundF P g c e size ∧ ∀ (x : c.α) cs n F H xs F2 H2, c.res x = .sl cs n → RCs F H true cs xs → RCs F2 H2 true cs xs := by have := hsound; simpa only [Sound, heff, hfrs] using this
        obtain ⟨F1, st1, avs, r1, r2, r3⟩ := bz_map _ _ _ st F K h hlen hval hg
        obtain ⟨x, ⟨henc, hok⟩, hk⟩ := r3
        replace r2 := henc.le _ _ _ _ r2
        replace hk : (freshR id e size (c.res x)).go st1 K := hk
        unfold freshR at hk
        split at hk
        · next cs n hres =>
          refine (hs.1 x (fun g _ => g < w.heap.size) w _ cs n (fun _ _ e => e) r2 hok hres).mono ?_
          rintro en w' ⟨v, F', rfl, hbl, q1, q2, q3, q4⟩
          have hR := r1.later (F' := fun g j => F1 g j ∨ (F' g j ∧ w.heap.size ≤ g)) hbl (fun _ _ => .inl) (fun g j e => e.imp (fun e => e) And.right) (fun g j e => e.elim (fun e => Nat.lt_of_lt_of_le (r1.f2 _ _ e) hbl.size) (fun e => q3 _ _ e.1))
          rcases q4 with ⟨g', cap, cur, p1, rfl, p2, p3, p4, p5, p6, p7, p8, p9⟩ | ⟨rfl, rfl, rfl⟩
          · have hA := hR.adoptA (id := id) (g := g') (cap := cap) (x := .row e size cs 0) hU (r1.hb _ (Nat.le_trans r1.below.size p1)) p4
              (fun b k c' _ hm => by have := r1.mlt _ _ _ hm; omega) (by simp) rfl (r1.later_free hbl (fun _ _ => .inl) (fun g j e => e.imp (fun e => e) And.right) p1) (fun m' hm' hid => .inl ⟨g', cap, cur, hid, r1.hb _ (Nat.le_trans r1.below.size p1), p5, p3, p6, p7, hs.2 x _ _ _ _ _ _ _ hres p8, fun j hj => (hj.elim (fun hj => by have := r1.f2 _ _ hj; omega) (fun hj => (p9 j hj.1).elim)), fun j hj => absurd hj (Nat.not_lt_zero _), Nat.zero_le _⟩)
            exact hn _ _ _ _ _ _ (hA.put hd (c := .osl id n) (.inl ⟨g', cap, by simp, p2, rfl⟩)) hk
          · have hA := hR.adoptNil (id := id) (e := e) (size := size) hU
            exact hn _ m _ _ _ _ (hA.put hd (c := .osl id 0) (.inr ⟨rfl, rfl⟩)) hk
        · cases hk
      · next i e size heff hfrs =>
        have hs : SoundA P g c i e size := by have := hsound; simpa only [Sound, heff, hfrs] using this
        obtain ⟨F1, st1, avs, r1, e1, r2, r3, _⟩ := mapRM_sound (fz_sound 4) _ _ _ st F K h hlen hval hg
        obtain ⟨x, ⟨henc, hok⟩, hk⟩ := r3
        replace r2 := henc.le _ _ _ _ r2
        replace hk : (freshRA id i e size (c.res x)).go st1 K := hk
        unfold freshRA at hk
        split at hk
        · next cs0 hres =>
          split at hk
          · next cs n hcell =>
            refine (hs x F1 w _ cs0 cs n r1.f2 r2 hok hres hcell).mono ?_
            rintro en w' ⟨v, F', rfl, hbl, q1, q2, q3, arr, y, rfl, hal, hoth, hy, q4⟩
            have hR := r1.later hbl q1 q2 q3
            have hrv : ∀ m' : MP, RP m' F' w'.heap (.osl id n) y → y.oneCell' = true → RV m' F' w'.heap (.ag (cs0.set i (.osl id n))) (.agg arr) := by
              intro m' h1 h2
              refine ⟨arr, rfl, by simpa using hal, fun j c z hc hz => ?_⟩
              by_cases hj : i = j
              · subst hj
                have hi : i < cs0.length := (List.getElem?_eq_some_iff.1 hcell).1
                rw [List.getElem?_set_self hi] at hc
                cases hc
                rw [hy] at hz; cases hz
                exact ⟨h1, h2⟩
              · rw [List.getElem?_set_ne hj] at hc
                obtain ⟨k1, k2⟩ := hoth j c z (fun e => hj e.symm) hc hz
                exact ⟨RP.of_RC k1, k2⟩
            rcases q4 with ⟨g', cap, cur, p1, rfl, p2, p3, p4, p5, p6, p7, p8, p9⟩ | ⟨rfl, rfl, rfl⟩
            · have hA := hR.adoptA (id := id) (g := g') (cap := cap) (x := .row e size cs 0) hU (r1.hb _ (Nat.le_trans r1.below.size p1)) p4
                (fun b k c' _ hm => by have := r1.mlt _ _ _ hm; omega) (by simp) rfl (r1.later_free hbl q1 q2 p1) (fun m' hm' hid => .inl ⟨g', cap, cur, hid, r1.hb _ (Nat.le_trans r1.below.size p1), p5, p3, p6, p7, p8, fun j hj => absurd hj (p9 j), fun j hj => absurd hj (Nat.not_lt_zero _), Nat.zero_le _⟩)
              exact hn F' _ _ _ _ _ (hA.put hd (c := .ag (cs0.set i (.osl id n))) (hrv _ (.inl ⟨g', cap, by simp, p2, rfl⟩) rfl)) hk
            · have hA := hR.adoptNil (id := id) (e := e) (size := size) hU
              exact hn F' m _ _ _ _ (hA.put hd (c := .ag (cs0.set i (.osl id 0))) (hrv _ (.inr ⟨rfl, rfl⟩) rfl)) hk
          · cases hk
        · cases hk
      · next e heff =>
        have hs : SoundE P g c e := by have := hsound; simpa only [Sound, heff] using this
        obtain ⟨F1, st1, avs, r1, e1, l1, r2, r3⟩ := ownR_sound _ _ _ _ st F K h hlen hval hg
        obtain ⟨⟨x, bs⟩, ⟨henc, hnd, hok⟩, hk⟩ := r3
        simp only at henc hnd hok
        replace hnd : bs.Nodup := of_decide_eq_true hnd
        obtain ⟨n1, hk, hget⟩ := getsR_go bs (e.pre x) hk
        obtain ⟨n2, st2, hk, hoth, hput⟩ := putsR_go bs (e.post x) st1 hk
        replace hput := hput hnd
        rw [RM.retF_eq] at hk
        obtain ⟨me1, me2⟩ := mapM_get henc
        have halive : ∀ (i : Nat) (b : Nat), bs[i]? = some b → aliveB st1 b := by
          intro i b hb
          have hi : i < (e.pre x).length := by rw [← n1]; exact (List.getElem?_eq_some_iff.1 hb).1
          obtain ⟨hd0, _, _, b', y, hb', hy, hr⟩ := hget i _ (List.getElem?_eq_getElem hi)
          rw [hb] at hb'; cases hb'
          refine ⟨y, hy, ?_⟩
          rintro rfl
          generalize (e.pre x)[i] = p at hd0 hr
          cases p with
          | var cs f => simp only [renX, Option.map_eq_some_iff] at hr; obtain ⟨_, _, e⟩ := hr; cases e
          | row _ _ _ _ => cases hr
          | loop r => cases hr
          | mark p => cases hr
          | dead => exact hd0 rfl
          | nest _ _ _ _ _ => cases hr
        have hbox : ∀ (i : Nat) (b : Nat), bs[i]? = some b → ∃ g k, m b = some (g, k) ∧ O g := by
          intro i b hb
          have hi : i < (e.pre x).length := by rw [← n1]; exact (List.getElem?_eq_some_iff.1 hb).1
          obtain ⟨hd0, hw0, hv0, b', y, hb', hy, hr⟩ := hget i _ (List.getElem?_eq_getElem hi)
          rw [hb] at hb'; cases hb'
          obtain ⟨y', hy', hy0⟩ := halive i b hb
          rw [hy] at hy'; cases hy'
          refine RBx.at hy0 ?_ ?_ (r1.hst b y hy)
          · rintro e' size cs q rfl
            generalize (e.pre x)[i] = p at hd0 hw0 hv0 hr
            cases p with
            | var cs f => simp only [renX, Option.map_eq_some_iff] at hr; obtain ⟨_, _, e⟩ := hr; cases e
            | row _ _ _ _ => exact absurd rfl (hw0 _ _ _ _)
            | loop r => cases hr
            | mark p => cases hr
            | dead => exact hd0 rfl
            | nest _ _ _ _ _ => cases hv0
          · generalize (e.pre x)[i] = p at hd0 hw0 hv0 hr
            cases p with
            | var cs f => simp only [renX, Option.map_eq_some_iff] at hr; obtain ⟨_, _, e⟩ := hr; subst e; rfl
            | row _ _ _ _ => exact absurd rfl (hw0 _ _ _ _)
            | loop r => cases hr
            | mark p => cases hr
            | dead => exact absurd rfl hd0
            | nest _ _ _ _ _ => cases hv0
        have hm0 : ∀ b y, (look (idx bs) b).bind m = some y → ∃ b', bs[b]? = some b' ∧ m b' = some y := by
          intro b y hy
          rw [look_idx] at hy
          simpa [Option.bind_eq_some_iff] using hy
        have hH : ∀ (b b' : Nat) (y : Nat × Nat), bs[b]? = some b' → m b' = some y → (look (idx bs) b).bind m = some y := by
          intro b b' y hb hy
          rw [look_idx, hb]; exact hy
        refine (hs x (fun b => (look (idx bs) b).bind m) F1 w _ r1.f2 ?_ (by omega) ?_ ?_ ?_ hok).mono ?_
        · intro b g k hb
          obtain ⟨b', h1, h2⟩ := hm0 _ _ hb
          exact ⟨by rw [← n1]; exact (List.getElem?_eq_some_iff.1 h1).1, r1.mlt _ _ _ h2⟩
        · intro i v y hv hy
          obtain ⟨c', hc', hr⟩ := me2 i v hv
          exact renV_RV hr (r2 i c' y hc' hy)
        · intro i p hp
          obtain ⟨_, _, hv0, b, y, hb, hy, hr⟩ := hget i p hp
          exact ⟨RBx.ren (by rw [look_idx]; exact hb) hr (r1.hst b y hy) fun g k hg => .inl ⟨i, k, hH i b _ hb hg⟩, hv0⟩
        · intro b b' g k k' hb hb'
          obtain ⟨b1, h1, h2⟩ := hm0 _ _ hb
          obtain ⟨b2, h3, h4⟩ := hm0 _ _ hb'
          have := r1.inj b1 b2 g k k' (halive _ _ h1) (halive _ _ h3) h2 h4
          subst this
          exact (List.getElem?_inj (List.getElem?_eq_some_iff.1 h1).1 hnd).1 (h1.trans h3.symm)
        · rintro en w' ⟨v, F', m', rfl, hown, hkeep, hmm, q1, q2, q3, q4, hpost⟩
          have hR : Rel O w0 F0 M0 D _ F' m sz tm st2 a w' := r1.laterE (O' := Handed (fun b => (look (idx bs) b).bind m) w) (by
              rintro g (⟨b, k, hb⟩ | hg)
              · obtain ⟨b', h1, h2⟩ := hm0 _ _ hb
                obtain ⟨g', k', h3, h4⟩ := hbox _ b' h1
                rw [h2] at h3; cases h3; exact h4
              · exact r1.hb _ (Nat.le_trans r1.below.size hg)) hown hkeep q1 q2 q3 (by
              intro b y hy
              by_cases hmem : b ∈ bs
              · obtain ⟨i, hi⟩ := List.getElem?_of_mem hmem
                obtain ⟨p, y', hp, hy', hr, hnr, hnv⟩ := hput i b hi
                rw [hy] at hy'; cases hy'
                refine .inr (.inr ⟨RBx.back ?_ (by rw [look_idx]; exact hi) hr (hpost i p hp) ?_ hnr hnv, by
                  cases p with
                  | var cs f => simp only [renX, Option.map_eq_some_iff] at hr; obtain ⟨_, _, e⟩ := hr; subst e; rfl
                  | row _ _ _ _ => exact absurd rfl (hnr _ _ _ _)
                  | loop r => cases hr
                  | mark p => cases hr
                  | dead => simp only [renX, Option.some.injEq] at hr; subst hr; rfl
                  | nest _ _ _ _ _ => cases hnv⟩)
                · intro j b' hj z hz
                  rw [look_idx] at hj
                  obtain ⟨g, k, h1, _⟩ := hbox j b' hj
                  have := hmm j _ (hH j b' _ hj h1)
                  rw [hz] at this; cases this; exact h1
                · rintro g (⟨b, k, hb⟩ | hg)
                  · obtain ⟨b', h1, h2⟩ := hm0 _ _ hb
                    obtain ⟨g', k', h3, h4⟩ := hbox _ b' h1
                    rw [h2] at h3; cases h3; exact h4
                  · exact r1.hb _ (Nat.le_trans r1.below.size hg)
              · rw [hoth b hmem] at hy
                by_cases hdead : y = .dead
                · exact .inl hdead
                refine .inr (.inl ⟨hy, fun g k hg => ?_⟩)
                rintro (⟨i, k', hb⟩ | hg')
                · obtain ⟨b', h1, h2⟩ := hm0 _ _ hb
                  have := r1.inj b b' g k k' ⟨y, hy, hdead⟩ (halive _ _ h1) hg h2
                  subst this
                  exact hmem (List.mem_of_getElem? h1)
                · exact absurd (r1.mlt _ _ _ hg) (by omega)) (by
              rintro L hL g b i hl (⟨b', k', hb⟩ | hg')
              · obtain ⟨b1, h1, h2⟩ := hm0 _ _ hb
                exact hL.al b1 g k' (halive _ _ h1) h2 b i hl
              · exact absurd (hL.lo g b i hl).2.1 (by omega)) (by
              rintro b ⟨y, hy, hy0⟩
              by_cases hmem : b ∈ bs
              · obtain ⟨i, hi⟩ := List.getElem?_of_mem hmem
                exact halive i b hi
              · rw [hoth b hmem] at hy; exact ⟨y, hy, hy0⟩) (by
              intro b hb
              have hmem : b ∉ bs := by
                intro hmem
                obtain ⟨i, hi⟩ := List.getElem?_of_mem hmem
                obtain ⟨y, hy, _⟩ := halive i b hi
                rw [hb] at hy; cases hy
              rw [hoth b hmem]; exact hb)
          exact hn F' m _ st2 _ _ ((hR.weakU fun _ e => e.1).put hd (RV.of_RC q4)) hk
    · cases hg
  · cases hg

theorem fail_ok {o : Oper} (h : ∀ (id : Nat) (ρ : Operand → V) (st : ST) (K : V → ST → Prop), (opR P C id ρ o.op).go st K → False) : OpOK P C o := by
  intro O w0 F0 M0 D U F m sz tm st a w id K next Q _ hU hd hg hn
  exact (h _ _ _ _ hg).elim

theorem op_ok (hC : CtxOK P C) (o : Oper) : OpOK P C o := by
  cases ho : o.op with
  | move x => exact move_ok (.inl ho)
  | assign x => exact move_ok (.inr ho)
  | pick c x y => exact pick_ok ho
  | alloc t => exact alloc_ok ho
  | box t x => exact box_ok ho
  | build t parts => exact build_ok ho
  | buildSlice t n parts => exact buildSlice_ok ho
  | load t x => exact load_ok ho
  | store t p x => exact store_ok ho
  | nilCheck x => exact nilCheck_ok ho
  | binOp op t x y u => exact binOp_ok ho
  | unOp op t x => exact unOp_ok ho
  | convert s d x => exact convert_ok ho
  | makeFunc fn first caps => exact makeFunc_ok ho
  | makeSlice t l c => exact makeSlice_ok ho
  | slice t x lo hi mx => exact slice_ok ho
  | fieldAddr s x f => exact fieldAddr_ok ho
  | field s x f => exact field_ok ho
  | indexAddr t x i => exact indexAddr_ok ho
  | index t x i => exact index_ok ho
  | extract x i => exact extract_ok ho
  | call c =>
    obtain ⟨callee, args, ts⟩ := c
    cases callee with
    | value f => exact call_ok hC ho
    | builtin b =>
      by_cases h1 : b = .len
      · subst h1
        match hargs : args.toList with
        | [x] =>
          have : args = #[x] := by apply Array.ext'; simpa using hargs
          subst this
          exact len_ok ho
        | [] => exact fail_ok (by intro id ρ st K hg; simp [ho, opR, hargs, RM.go] at hg)
        | x :: y :: l => exact fail_ok (by intro id ρ st K hg; simp [ho, opR, hargs, RM.go] at hg)
      by_cases h2 : b = .append
      · subst h2
        match hargs : args.toList, hts : ts.toList with
        | [s, x], [t, u] =>
          have : args = #[s, x] := by apply Array.ext'; simpa using hargs
          subst this
          have : ts = #[t, u] := by apply Array.ext'; simpa using hts
          subst this
          exact append_ok ho
        | [s, x], [] => exact fail_ok (by intro id ρ st K hg; simp [ho, opR, hargs, hts, RM.go] at hg)
        | [s, x], [t] => exact fail_ok (by intro id ρ st K hg; simp [ho, opR, hargs, hts, RM.go] at hg)
        | [s, x], t :: u :: v :: l => exact fail_ok (by intro id ρ st K hg; simp [ho, opR, hargs, hts, RM.go] at hg)
        | [], _ => exact fail_ok (by intro id ρ st K hg; simp [ho, opR, hargs, RM.go] at hg)
        | [x], _ => exact fail_ok (by intro id ρ st K hg; simp [ho, opR, hargs, RM.go] at hg)
        | x :: y :: z :: l, _ => exact fail_ok (by intro id ρ st K hg; simp [ho, opR, hargs, RM.go] at hg)
      by_cases h5 : b = .copy
      · subst h5
        match hargs : args.toList, hts : ts.toList with
        | [s, x], [t, u] =>
          have : args = #[s, x] := by apply Array.ext'; simpa using hargs
          subst this
          have : ts = #[t, u] := by apply Array.ext'; simpa using hts
          subst this
          exact copy_ok ho
        | [s, x], [] => exact fail_ok (by intro id ρ st K hg; simp [ho, opR, hargs, hts, RM.go] at hg)
        | [s, x], [t] => exact fail_ok (by intro id ρ st K hg; simp [ho, opR, hargs, hts, RM.go] at hg)
        | [s, x], t :: u :: v :: l => exact fail_ok (by intro id ρ st K hg; simp [ho, opR, hargs, hts, RM.go] at hg)
        | [], _ => exact fail_ok (by intro id ρ st K hg; simp [ho, opR, hargs, RM.go] at hg)
        | [x], _ => exact fail_ok (by intro id ρ st K hg; simp [ho, opR, hargs, RM.go] at hg)
        | x :: y :: z :: l, _ => exact fail_ok (by intro id ρ st K hg; simp [ho, opR, hargs, RM.go] at hg)
      by_cases h3 : b = .min
      · subst h3; exact minmax_ok false ho
      by_cases h4 : b = .max
      · subst h4; exact minmax_ok true ho
      refine fail_ok ?_
      intro id ρ st K hg
      simp only [ho, opR] at hg
      revert hg
      cases b <;> simp_all [RM.go]
    | invoke r n => exact fail_ok (by intro id ρ st K hg; simp [ho, opR, RM.go] at hg)
  | _ => exact fail_ok (by intro id ρ st K hg; simp [ho, opR, RM.go] at hg)

end
end Go.Ev
/- A run of the model follows the evaluator: regions, code, functions. -/
set_option linter.unusedVariables false
set_option linter.unusedSimpArgs false
namespace Go.Ev
open Go.RowKit

section
variable {P : Program} {C : FuncId → Option Con}

theorem yielded_of {O : Nat → Prop} {w0 : World} {F0 : FZ} {M0 : MP} {D : List Deferred} {U : Nat → Prop} {F : FZ} {m : MP} {sz : Nat} {tm : TM} {st : ST} {a : Act} {w : World} (h : Rel O w0 F0 M0 D U F m sz tm st a w)
    {ops : Array Oper} {j d : Nat} {b : Bool} (hd : (ops.toList[j]?).bind (·.dst) = some d) (hb : (look tm d).getD .top = .v (.bool b)) : yielded ops a.tmps j = some b := by
  have h1 := h.htm d
  rw [hb] at h1
  have h2 : a.tmps.getD d undef = .bool b := h1
  have h3 : a.tmps[d]? = some (.bool b) := by
    rw [Array.getD_eq_getD_getElem?] at h2
    cases h4 : a.tmps[d]? with
    | none => rw [h4] at h2; simp [undef] at h2
    | some v => rw [h4] at h2; simp at h2; rw [h2]
  rw [Array.getElem?_toList] at hd
  simp [yielded, hd, h3]

theorem yielded_not {O : Nat → Prop} {w0 : World} {F0 : FZ} {M0 : MP} {D : List Deferred} {U : Nat → Prop} {F : FZ} {m : MP} {sz : Nat} {tm : TM} {st : ST} {a : Act} {w : World} (h : Rel O w0 F0 M0 D U F m sz tm st a w)
    {ops : Array Oper} {j d : Nat} {arr : Array Value} (hd : (ops.toList[j]?).bind (·.dst) = some d) (hb : (look tm d).getD .top = .v (.tuple arr)) : yielded ops a.tmps j = none := by
  have h1 := h.htm d
  rw [hb] at h1
  have h2 : a.tmps.getD d undef = .tuple arr := h1
  rw [Array.getElem?_toList] at hd
  rw [Array.getD_eq_getD_getElem?] at h2
  cases h4 : a.tmps[d]? with
  | none => simp [yielded, hd, h4]
  | some v =>
    rw [h4] at h2
    simp at h2
    subst h2
    simp [yielded, hd, h4]

/-- A region whose order is the text's. -/
theorem evOps_sound (hC : CtxOK P C) {FF : Fence} (hW : Wide FF) {O : Nat → Prop} {w0 : World} {F0 : FZ} {M0 : MP} {D : List Deferred} {sz : Nat} {ops : Array Oper} {Q : Exit → Act → World → Prop} {K : TM → ST → Prop} :
    ∀ (l : List Oper) (k : Nat) (id : Nat) (F : FZ) (m : MP) (tm : TM) (st : ST) (a : Act) (w : World), ops.toList.drop k = l → Rel O w0 F0 M0 D (fun b => id ≤ b) F m sz tm st a w →
      evOps P C sz ops.toList l id tm st K →
      (∀ F' m' tm' st' a' w', Rel O w0 F0 M0 D (fun b => id + l.length ≤ b) F' m' sz tm' st' a' w' → K tm' st' → Q .normal a' w') → wpOpsIn FF 0 P ops Q ((List.range ops.size).drop k) a w
  | [], k, id, F, m, tm, st, a, w, hl, h, hg, hn => by
    have hk : ops.size ≤ k := by
      have := congrArg List.length hl
      simp at this
      omega
    rw [List.drop_of_length_le (by simpa using hk)]
    exact hn F m tm st a w h hg
  | o :: l, k, id, F, m, tm, st, a, w, hl, h, hg, hn => by
    have hk : k < ops.size := by
      have := congrArg List.length hl
      simp at this
      omega
    have ho : ops[k]? = some o := by
      have : (ops.toList.drop k)[0]? = some o := by rw [hl]; rfl
      rw [List.getElem?_drop, Nat.add_zero, Array.getElem?_toList] at this
      exact this
    have hl' : ops.toList.drop (k + 1) = l := by
      rw [← List.drop_drop, hl]; rfl
    have hr : (List.range ops.size).drop k = k :: (List.range ops.size).drop (k + 1) := by
      rw [List.drop_eq_getElem_cons (by simpa using hk)]
      simp
    rw [hr]
    simp only [wpOpsIn, ho]
    simp only [evOps] at hg
    split at hg
    · cases hg
    · next hd =>
      have hn' : ∀ F' m' tm' st' a' w', Rel O w0 F0 M0 D (fun b => id + 1 + l.length ≤ b) F' m' sz tm' st' a' w' → K tm' st' → Q .normal a' w' := by
        intro F' m' tm' st' a' w' hR hK
        exact hn F' m' tm' st' a' w' (hR.weakU fun b hb => by simp at hb; omega) hK
      have run : (opR P C id (ev tm) o.op).go st (fun v st' => evOps P C sz ops.toList l (id + 1) (putT tm o.dst v) st' K) → o.wpIn FF 0 P a w (wpOpsIn FF 0 P ops Q ((List.range ops.size).drop (k + 1))) Q := by
        intro hg
        refine op_ok hC o h (Nat.le_refl _) hd hg ?_ FF hW
        intro F' m' v st' a' w' hR hK
        exact evOps_sound hC hW l (k + 1) (id + 1) F' m' _ st' a' w' hl' (hR.weakU fun b hb => ⟨by omega, by omega⟩) hK hn'
      split at hg
      · next hgd =>
        have hw : Region.wanted o (yielded ops a.tmps) = true := by simp [Region.wanted, hgd]
        rw [if_pos hw]
        exact run hg
      · next j want hgd =>
        split at hg
        · cases hg
        · next d hdj =>
          split at hg
          · next b hb =>
            have hy := yielded_of h hdj hb
            have g1 : (b == want) = true → (opR P C id (ev tm) o.op).go st fun v st' => evOps P C sz ops.toList l (id + 1) (putT tm o.dst v) st' K := by
              cases want
              · obtain ⟨_, g⟩ := br_elim hg; intro e; exact g (by simpa using e)
              · obtain ⟨g, _⟩ := br_elim hg; intro e; exact g (by simpa using e)
            have g2 : (b == want) = false → evOps P C sz ops.toList l (id + 1) (putT tm o.dst vU) st K := by
              cases want
              · obtain ⟨g, _⟩ := br_elim hg; intro e; exact g (by simpa using e)
              · obtain ⟨_, g⟩ := br_elim hg; intro e; exact g (by simpa using e)
            by_cases hbw : (b == want) = true
            · have hw : Region.wanted o (yielded ops a.tmps) = true := by simpa [Region.wanted, hgd, hy] using hbw
              rw [if_pos hw]
              exact run (g1 hbw)
            · have hw : ¬ Region.wanted o (yielded ops a.tmps) = true := by simpa [Region.wanted, hgd, hy] using hbw
              rw [if_neg hw]
              have := g2 (by simpa using hbw)
              exact ⟨fun f _ => hW.fn f, evOps_sound hC hW l (k + 1) (id + 1) F m _ st _ w hl' ((h.weakU fun b hb => by omega).put hd (c := vU) rfl) this hn'⟩
          · next arr hb =>
            have hy := yielded_not h hdj hb
            have hw : ¬ Region.wanted o (yielded ops a.tmps) = true := by simp [Region.wanted, hgd, hy]
            rw [if_neg hw]
            exact ⟨fun f _ => hW.fn f, evOps_sound hC hW l (k + 1) (id + 1) F m _ st _ w hl' ((h.weakU fun b hb => by omega).put hd (c := vU) rfl) hg hn'⟩
          · cases hg

/-- Where a piece of code ends, as the evaluator says. -/
def Post (O : Nat → Prop) (w0 : World) (F0 : FZ) (M0 : MP) (D : List Deferred) (sz : Nat) (Q : AX → TM → ST → Nat → Prop) : Exit → Act → World → Prop
  | .normal, a, w => ∃ F m tm st nx, Rel O w0 F0 M0 D (fun b => nx ≤ b) F m sz tm st a w ∧ Q .normal tm st nx
  | .exit id, a, w => ∃ F m tm st nx, Rel O w0 F0 M0 D (fun b => nx ≤ b) F m sz tm st a w ∧ Q (.exit id) tm st nx
  | .ret, a, w => ∃ F m tm st nx, Rel O w0 F0 M0 D (fun b => nx ≤ b) F m sz tm st a w ∧ Q .ret tm st nx
  | _, _, _ => False

theorem SubT.mem {r : List (Nat × Nat)} : ∀ {tm' tm : TM}, SubT r tm' tm → ∀ p ∈ tm', renV r p.2 = some ((look tm p.1).getD .top) ∨ nilB p.2 ((look tm p.1).getD .top) = true
  | [], _, _, p, hp => by cases hp
  | (i, v) :: l, tm, ⟨h1, h2⟩, p, hp => by
    rcases List.mem_cons.1 hp with rfl | hp
    · exact h1
    · exact SubT.mem h2 p hp

theorem SubS.mem {r : List (Nat × Nat)} : ∀ {st' st : ST}, SubS r st' st → ∀ p ∈ st', (∃ b y, look r p.1 = some b ∧ renX r p.2 = some y ∧ look st b = some y) ∨ (decide (look r p.1 = none) && virtB p.2) = true ∨ (∃ b' cs' cs f, p.2 = .var cs' f ∧ look r p.1 = some b' ∧ look st b' = some (.var cs f) ∧ SubC r cs' cs)
  | [], _, _, p, hp => by cases hp
  | (i, v) :: l, tm, ⟨h1, h2⟩, p, hp => by
    rcases List.mem_cons.1 hp with rfl | hp
    · exact h1
    · exact SubS.mem h2 p hp

theorem SubC.get {r : List (Nat × Nat)} : ∀ {cs' cs : List V}, SubC r cs' cs → cs'.length = cs.length ∧ ∀ (i : Nat) (c : V), cs'[i]? = some c → ∃ c', cs[i]? = some c' ∧ (renV r c = some c' ∨ nilB c c' = true)
  | [], [], _ => ⟨rfl, fun i c h => by simp at h⟩
  | v :: l, d :: k, ⟨h1, h2⟩ => by
    obtain ⟨e1, e2⟩ := SubC.get h2
    refine ⟨by simp [e1], fun i c h => ?_⟩
    cases i with
    | zero => simp only [List.getElem?_cons_zero, Option.some.injEq] at h; subst h; exact ⟨d, rfl, h1⟩
    | succ i => rw [List.getElem?_cons_succ] at h ⊢; exact e2 i c h
  | [], _ :: _, h => h.elim
  | _ :: _, [], h => h.elim

theorem nilB_RV {m m' : MP} {F : FZ} {H : Array Obj} {c d : V} {x : Value} (h : nilB c d = true) (hx : RV m F H d x) : RV m' F H c x := by
  unfold nilB at h
  split at h
  · exact .inr ⟨rfl, hx⟩
  · cases h

/-- Lists of lists under other names. -/
theorem NOK.ren {O : Nat → Prop} {F : FZ} {m : MP} {st st' : ST} {H : Array Obj} {L : Nat → Nat → Nat → Prop} (hL : NOK O F m st H L) {r : List (Nat × Nat)} (h4 : (r.map (·.2)).Nodup) (hal : ∀ b, aliveB st' b → look r b ≠ none → ∃ b', look r b = some b' ∧ aliveB st b')
    (hn : ∀ b x, look st' b = some x → isNest x = true → (∃ b', look r b = some b' ∧ look st b' = some x) ∨ look r b = none) : NOK O F (fun b => (look r b).bind m) st' H (fun g b i => ∃ b', look r b = some b' ∧ L g b' i) := by
  refine ⟨?_, ?_, ?_, ?_⟩
  · rintro g b i ⟨b', _, hg⟩; exact hL.lo g b' i hg
  · rintro g b i b2 i2 ⟨b', h1, hg⟩ ⟨b2', h2, hg2⟩
    obtain ⟨e1, e2⟩ := hL.un g b' i b2' i2 hg hg2
    subst e1
    exact ⟨look_inj h4 h1 h2, e2⟩
  · rintro b g c ha hm b2 i ⟨b2', h1, hg⟩
    simp only [Option.bind_eq_some_iff] at hm
    obtain ⟨b', h2, hm⟩ := hm
    obtain ⟨b1, h3, a1⟩ := hal b ha (by rw [h2]; simp)
    rw [h2] at h3; cases h3
    exact hL.al b' g c a1 hm b2' i hg
  · intro b x hx
    rcases Bool.eq_false_or_eq_true (isNest x) with hne | hne
    rotate_left
    · exact NX_of_not hne
    rcases hn b x hx hne with ⟨b', h1, h2⟩ | h1
    · have := hL.nx b' x h2
      cases x with
      | nest e e2 s2 cs hole =>
        intro g c hm i c1 hc hh
        simp only [h1, Option.bind_some] at hm
        obtain ⟨y, hy, ls, n, e1, q1, q2, q3⟩ := this g c hm i c1 hc hh
        refine ⟨y, hy, ls, n, e1, q1, q2, q3.imp id ?_⟩
        rintro ⟨g2, cap, cur, p1, p2, p3⟩
        exact ⟨g2, cap, cur, p1, ⟨b', h1, p2⟩, p3⟩
      | _ => trivial
    · cases x with
      | nest e e2 s2 cs hole =>
        intro g c hm
        simp [h1] at hm
      | _ => trivial

/-- A state that says less. -/
theorem Rel.sub {O : Nat → Prop} {w0 : World} {F0 : FZ} {M0 : MP} {D : List Deferred} {U : Nat → Prop} {F : FZ} {m : MP} {sz : Nat} {tm tm' : TM} {st st' : ST} {a : Act} {w : World} {r : List (Nat × Nat)} {nx' pins : Nat}
    (h : Rel O w0 F0 M0 D U F m sz tm st a w) (hp : ∀ b y, M0 b = some y → b < pins) (hs : Sub pins r tm' st' nx' tm st) : Rel O w0 F0 M0 D (fun b => nx' ≤ b) F (fun b => (look r b).bind m) sz tm' st' a w := by
  obtain ⟨g1, g2, g3, g4⟩ := hs
  have h1 := g1.mem
  have h2 := g2.mem
  rw [Bool.and_eq_true] at g3
  have h3 : ∀ p ∈ r, p.1 < nx' := fun p hp => by simpa using List.all_eq_true.1 g3.1 p hp
  have h3' : ∀ p ∈ st', p.1 < nx' := fun p hp => by simpa using List.all_eq_true.1 g3.2 p hp
  have virt : ∀ {b : Nat} {x : Bx}, (decide (look r b = none) && virtB x) = true → look r b = none ∧ ((∃ e size, x = .row e size [] 0) ∨ ∃ e e2 s2, x = .nest e e2 s2 [] []) := by
    intro b x h
    rw [Bool.and_eq_true] at h
    refine ⟨of_decide_eq_true h.1, ?_⟩
    have h2 := h.2
    unfold virtB at h2
    split at h2
    · exact .inl ⟨_, _, rfl⟩
    · exact .inr ⟨_, _, _, rfl⟩
    · cases h2
  rw [Bool.and_eq_true] at g4
  have h4 : (r.map (·.2)).Nodup := of_decide_eq_true g4.1
  have h5 : ∀ i, i < pins → look r i = some i := fun i hi => of_decide_eq_true (List.all_eq_true.1 g4.2 i (List.mem_range.2 hi))
  have hal : ∀ b, aliveB st' b → look r b ≠ none → ∃ b', look r b = some b' ∧ aliveB st b' := by
    rintro b ⟨x, hx, hd⟩ hnn
    obtain ⟨b', y, e1, e2, e3⟩ | hv | ⟨b', cs', cs, f, ex, e1, e3, hc⟩ := h2 _ (look_mem hx)
    rotate_left
    · exact absurd (virt hv).1 hnn
    · exact ⟨b', e1, _, e3, fun h => by cases h⟩
    refine ⟨b', e1, y, e3, ?_⟩
    rintro rfl
    simp only at e2
    cases x with
    | var cs f =>
      simp only [renX, Option.map_eq_some_iff] at e2
      obtain ⟨_, _, e4⟩ := e2
      cases e4
    | row e size cs p => cases e2
    | loop r => cases e2
    | mark p => cases e2
    | dead => exact hd rfl
    | nest _ _ _ _ _ => cases e2
  refine { htm := ?_, hsz := h.hsz, hde := h.hde, hst := ?_, inj := ?_, fresh := ?_, pin := fun b y e => by rw [h5 b (hp b y e)]; exact h.pin b y e, keep := h.keep, f0 := h.f0, f1 := h.f1, f2 := h.f2, mlt := ?_, below := h.below, hb := h.hb, nst := ?_ }
  rotate_left 5
  · obtain ⟨L, hL⟩ := h.nst
    refine ⟨_, hL.ren h4 hal fun b x hx hne => ?_⟩
    obtain ⟨b', y, e1, e2, e3⟩ | hv | ⟨b', cs', cs, f, ex, e1, e3, hc⟩ := h2 _ (look_mem hx)
    · simp only at e2
      cases x with
      | nest e e2' s2 cs hole =>
        simp only [renX, Option.some.injEq] at e2
        subst e2
        exact .inl ⟨b', e1, e3⟩
      | _ => cases hne
    · exact .inr (virt hv).1
    · simp only at ex
      subst ex; cases hne
  · intro i
    cases hl : look tm' i with
    | none => exact trivial
    | some v =>
      simp only [Option.getD_some]
      rcases h1 _ (look_mem hl) with h1 | h1
      · exact renV_RV h1 (h.htm i)
      · have ht := h.htm i
        generalize (look tm i).getD .top = c at h1 ht
        simp only at h1
        unfold nilB at h1
        split at h1
        · exact .inr ⟨rfl, ht⟩
        · cases h1
  · intro b x hx
    obtain ⟨b', y, e1, e2, e3⟩ | hv | ⟨b', cs, cs', f, ex, e1, e3, hc⟩ := h2 _ (look_mem hx)
    rotate_left
    · obtain ⟨hr, ⟨e, size, rfl⟩ | ⟨e, e2, s2, rfl⟩⟩ := virt hv
      · simp only at hr
        exact .inr ⟨by simp [hr], rfl, rfl⟩
      · simp only at hr
        exact .inr ⟨by simp [hr], rfl, rfl⟩
    · simp only at ex e1
      subst ex
      obtain ⟨g, c, arr, ty, q1, q2, q3, q4, q5, q6⟩ := h.hst b' _ e3
      obtain ⟨l1, l2⟩ := hc.get
      refine ⟨g, c, arr, ty, by simp [e1, q1], q2, q3, ⟨by rw [l1]; exact q4.1, fun i c x hc hx => ?_⟩, q5, fun hf j hj => q6 hf j (by omega)⟩
      obtain ⟨c', hc', hr⟩ := l2 i c hc
      refine ⟨?_, (q4.2 i c' x hc' hx).2⟩
      rcases hr with hr | hr
      · exact renV_RV hr (q4.2 i c' x hc' hx).1
      · exact nilB_RV hr (q4.2 i c' x hc' hx).1
    simp only at e1 e2
    have hy := h.hst b' y e3
    cases x with
    | var cs f =>
      simp only [renX, Option.map_eq_some_iff] at e2
      obtain ⟨cs', hm, rfl⟩ := e2
      obtain ⟨g, c, arr, ty, q1, q2, q3, q4, q5, q6⟩ := hy
      obtain ⟨l1, l2⟩ := mapM_get hm
      refine ⟨g, c, arr, ty, by simp [e1, q1], q2, q3, ⟨by rw [l1]; exact q4.1, fun i c x hc hx => ?_⟩, q5, fun hf j hj => q6 hf j (by omega)⟩
      obtain ⟨c', hc', hr⟩ := l2 i c hc
      exact ⟨renV_RV hr (q4.2 i c' x hc' hx).1, (q4.2 i c' x hc' hx).2⟩
    | row e size cs p =>
      simp only [renX, Option.some.injEq] at e2
      subst e2
      rcases hy with ⟨g, cap, cur, q1, q⟩ | ⟨q1, q⟩
      · exact .inl ⟨g, cap, cur, by simp [e1, q1], q⟩
      · exact .inr ⟨by simp [e1, q1], q⟩
    | loop r => cases e2
    | mark p => cases e2
    | dead => trivial
    | nest e e2' s2 cs hole =>
      simp only [renX, Option.some.injEq] at e2
      subst e2
      rcases hy with ⟨g, cap, cur, q1, q⟩ | ⟨q1, q⟩
      · exact .inl ⟨g, cap, cur, by simp [e1, q1], q⟩
      · exact .inr ⟨by simp [e1, q1], q⟩
  · intro b b' g c c' ha ha' hm hm'
    obtain ⟨b1, e1, a1⟩ := hal b ha (fun e => by simp [e] at hm)
    obtain ⟨b2, e2, a2⟩ := hal b' ha' (fun e => by simp [e] at hm')
    rw [e1] at hm
    rw [e2] at hm'
    have := h.inj b1 b2 g c c' a1 a2 hm hm'
    subst this
    exact look_inj h4 e1 e2
  · intro b hb
    have hr : look r b = none := by
      cases hl : look r b with
      | none => rfl
      | some b' => have := h3 _ (look_mem hl); simp only at this; omega
    refine ⟨?_, by simp [hr]⟩
    cases hl : look st' b with
    | none => rfl
    | some x =>
      have := h3' _ (look_mem hl)
      simp only at this; omega
  · intro b g c hm
    simp only [Option.bind_eq_some_iff] at hm
    obtain ⟨b', _, hm⟩ := hm
    exact h.mlt b' g c hm

end
end Go.Ev
/- Regions whose order is open: the order of the text serves them all, where steps that are not ordered have nothing in common. -/
set_option linter.unusedVariables false
set_option linter.unusedSimpArgs false
namespace Go.Ev
open Go.RowKit

/-- The work of an operation, with what it reads and writes. -/
def RM.ex : RM → (Nat → Option Bx) → List Nat → List (Nat × Bx) → V → Prop
  | .fail, _, _, _, _ => False
  | .ret c, _, rs, us, v => rs = [] ∧ us = [] ∧ v = c
  | .req p k, L, rs, us, v => p ∧ k.ex L rs us v
  | @RM.dec p k _, L, rs, us, v => p ∧ k.ex L rs us v
  | .exi _ p k, L, rs, us, v => ∃ x, p x ∧ (k x).ex L rs us v
  | .get b k, L, rs, us, v => ∃ x rs', L b = some x ∧ rs = b :: rs' ∧ (k x).ex L rs' us v
  | .put b x k, L, rs, us, v => ∃ us', us = us' ++ [(b, x)] ∧ k.ex (fun j => if b = j then some x else L j) rs us' v

theorem RM.ex_go : ∀ (r : RM) (st : ST) (rs : List Nat) (us : List (Nat × Bx)) (v : V) (K : V → ST → Prop), r.ex (look st) rs us v → K v (us ++ st) → r.go st K
  | .fail, st, rs, us, v, K, h, _ => h.elim
  | .ret c, st, rs, us, v, K, ⟨_, h2, h3⟩, hk => by subst h2 h3; exact hk
  | .req p k, st, rs, us, v, K, ⟨h1, h2⟩, hk => ⟨h1, ex_go k st rs us v K h2 hk⟩
  | @RM.dec p k _, st, rs, us, v, K, ⟨h1, h2⟩, hk => ⟨h1, ex_go k st rs us v K h2 hk⟩
  | .exi _ p k, st, rs, us, v, K, ⟨x, h1, h2⟩, hk => ⟨x, h1, ex_go (k x) st rs us v K h2 hk⟩
  | .get b k, st, rs, us, v, K, ⟨x, rs', h1, _, h2⟩, hk => by
    simp only [RM.go, h1]
    exact ex_go (k x) st rs' us v K h2 hk
  | .put b x k, st, rs, us, v, K, ⟨us', h1, h2⟩, hk => by
    simp only [RM.go]
    have e : (fun j => if b = j then some x else look st j) = look ((b, x) :: st) := by funext j; rw [look_cons]
    rw [e] at h2
    refine ex_go k _ rs us' v K h2 ?_
    subst h1
    simpa using hk

theorem RM.goT_ex : ∀ (r : RM) (st : ST) (rs0 ws0 : List Nat) (K : V → ST → List Nat → List Nat → Prop), r.goT st rs0 ws0 K →
    ∃ rs us v rs1 ws1, r.ex (look st) rs us v ∧ K v (us ++ st) rs1 ws1 ∧ (∀ b, b ∈ rs1 ↔ b ∈ rs0 ∨ b ∈ rs) ∧ (∀ b, b ∈ ws1 ↔ b ∈ ws0 ∨ b ∈ us.map (·.1))
  | .fail, st, rs0, ws0, K, h => h.elim
  | .ret c, st, rs0, ws0, K, h => ⟨[], [], c, rs0, ws0, ⟨rfl, rfl, rfl⟩, h, by simp, by simp⟩
  | .req p k, st, rs0, ws0, K, ⟨h1, h2⟩ => by
    obtain ⟨rs, us, v, rs1, ws1, e1, e2, e3, e4⟩ := goT_ex k st rs0 ws0 K h2
    exact ⟨rs, us, v, rs1, ws1, ⟨h1, e1⟩, e2, e3, e4⟩
  | @RM.dec p k _, st, rs0, ws0, K, ⟨h1, h2⟩ => by
    obtain ⟨rs, us, v, rs1, ws1, e1, e2, e3, e4⟩ := goT_ex k st rs0 ws0 K h2
    exact ⟨rs, us, v, rs1, ws1, ⟨h1, e1⟩, e2, e3, e4⟩
  | .exi _ p k, st, rs0, ws0, K, ⟨x, h1, h2⟩ => by
    obtain ⟨rs, us, v, rs1, ws1, e1, e2, e3, e4⟩ := goT_ex (k x) st rs0 ws0 K h2
    exact ⟨rs, us, v, rs1, ws1, ⟨x, h1, e1⟩, e2, e3, e4⟩
  | .get b k, st, rs0, ws0, K, h => by
    simp only [RM.goT] at h
    split at h
    · next x hx =>
      obtain ⟨rs, us, v, rs1, ws1, e1, e2, e3, e4⟩ := goT_ex (k x) st (b :: rs0) ws0 K h
      refine ⟨b :: rs, us, v, rs1, ws1, ⟨x, rs, hx, rfl, e1⟩, e2, fun q => ?_, e4⟩
      rw [e3]
      simp only [List.mem_cons]
      constructor
      · rintro ((h | h) | h)
        · exact .inr (.inl h)
        · exact .inl h
        · exact .inr (.inr h)
      · rintro (h | h | h)
        · exact .inl (.inr h)
        · exact .inl (.inl h)
        · exact .inr h
    · cases h
  | .put b x k, st, rs0, ws0, K, h => by
    simp only [RM.goT] at h
    obtain ⟨rs, us, v, rs1, ws1, e1, e2, e3, e4⟩ := goT_ex k ((b, x) :: st) rs0 (b :: ws0) K h
    have e : (fun j => if b = j then some x else look st j) = look ((b, x) :: st) := by funext j; rw [look_cons]
    refine ⟨rs, us ++ [(b, x)], v, rs1, ws1, ⟨us, rfl, by rw [e]; exact e1⟩, by simpa using e2, e3, fun q => ?_⟩
    rw [e4]
    simp only [List.mem_cons, List.map_append, List.map_cons, List.map_nil, List.mem_append, List.mem_singleton, List.not_mem_nil, or_false]
    constructor
    · rintro ((h | h) | h)
      · exact .inr (.inr h)
      · exact .inl h
      · exact .inr (.inl h)
    · rintro (h | h | h)
      · exact .inl (.inr h)
      · exact .inr h
      · exact .inl (.inl h)

theorem RM.ex_congr : ∀ (r : RM) (L L' : Nat → Option Bx) (rs : List Nat) (us : List (Nat × Bx)) (v : V), r.ex L rs us v → (∀ b ∈ rs, L' b = L b) → r.ex L' rs us v
  | .fail, _, _, _, _, _, h, _ => h
  | .ret c, _, _, _, _, _, h, _ => h
  | .req p k, L, L', rs, us, v, ⟨h1, h2⟩, he => ⟨h1, ex_congr k L L' rs us v h2 he⟩
  | @RM.dec p k _, L, L', rs, us, v, ⟨h1, h2⟩, he => ⟨h1, ex_congr k L L' rs us v h2 he⟩
  | .exi _ p k, L, L', rs, us, v, ⟨x, h1, h2⟩, he => ⟨x, h1, ex_congr (k x) L L' rs us v h2 he⟩
  | .get b k, L, L', rs, us, v, ⟨x, rs', h1, h2, h3⟩, he => by
    subst h2
    exact ⟨x, rs', by rw [he b (by simp), h1], rfl, ex_congr (k x) L L' rs' us v h3 (fun b hb => he b (by simp [hb]))⟩
  | .put b x k, L, L', rs, us, v, ⟨us', h1, h2⟩, he => by
    refine ⟨us', h1, ex_congr k _ _ rs us' v h2 (fun q hq => ?_)⟩
    by_cases e : b = q
    · simp [e]
    · simpa [e] using he q hq

theorem look_append {α : Type} : ∀ (us st : List (Nat × α)) (j : Nat), look (us ++ st) j = (look us j).or (look st j)
  | [], st, j => by simp
  | (i, x) :: us, st, j => by
    rw [List.cons_append, look_cons, look_cons]
    split
    · simp
    · exact look_append us st j

theorem look_none {α : Type} : ∀ {us : List (Nat × α)} {j : Nat}, j ∉ us.map (·.1) → look us j = none
  | [], j, _ => rfl
  | (i, x) :: us, j, h => by
    simp only [List.map_cons, List.mem_cons, not_or] at h
    rw [look_cons, if_neg (fun e => h.1 e.symm)]
    exact look_none h.2

section
variable (P : Program) (C : FuncId → Option Con) (sz : Nat) (ops : Array Oper) (nx : Nat)

/-- One step of a region. -/
def stepA (i : Nat) (o : Oper) (tm : TM) (L : Nat → Option Bx) (rs : List Nat) (us : List (Nat × Bx)) (v : V) : Prop :=
  okDst sz o.dst = true ∧ match o.guard with
    | none => (opR P C (nx + i) (ev tm) o.op).ex L rs us v
    | some (j, want) => ∃ d, (ops.toList[j]?).bind (·.dst) = some d ∧ ((∃ b, (look tm d).getD .top = .v (.bool b) ∧
      (if b = want then (opR P C (nx + i) (ev tm) o.op).ex L rs us v else rs = [] ∧ us = [] ∧ v = vU)) ∨ ((∃ arr, (look tm d).getD .top = .v (.tuple arr)) ∧ rs = [] ∧ us = [] ∧ v = vU))

abbrev FP := List Nat × List (Nat × Bx) × V

def TrD : List (Nat × Oper) → TM → ST → List FP → Prop
  | [], _, _, [] => True
  | (i, o) :: l, tm, st, (rs, us, v) :: fs => stepA P C sz ops nx i o tm (look st) rs us v ∧ TrD l (putT tm o.dst v) (us ++ st) fs
  | _, _, _, _ => False

def endTm : List (Nat × Oper) → TM → List FP → TM
  | (_, o) :: l, tm, (_, _, v) :: fs => endTm l (putT tm o.dst v) fs
  | _, tm, _ => tm
def endSt : List FP → ST → ST
  | (_, us, _) :: fs, st => endSt fs (us ++ st)
  | [], st => st

def Eqv {α : Type} (s t : List (Nat × α)) : Prop := ∀ j, look s j = look t j

variable {P C sz ops nx}

theorem opR_congr {id : Nat} {ρ ρ' : Operand → V} {op : Op} (h : ∀ x ∈ op.operands, ρ x = ρ' x) : opR P C id ρ op = opR P C id ρ' op := by
  have hm : ∀ {l : List Operand}, (∀ x ∈ l, ρ x = ρ' x) → l.map ρ = l.map ρ' := fun h => List.map_congr_left h
  cases op
  all_goals try (simp only [opR]; done)
  case build t parts =>
    have e : (parts.toList.map fun (i, x) => (i, ρ x)) = (parts.toList.map fun (i, x) => (i, ρ' x)) := by
      refine List.map_congr_left fun p hp => ?_
      have := h p.2 (by simp only [Op.operands]; simp; exact ⟨p.1, by simpa using hp⟩)
      obtain ⟨i, x⟩ := p
      simp only at this ⊢
      rw [this]
    simp only [opR, e]
  case buildSlice t n parts =>
    have e : (parts.toList.map fun (i, x) => (i, ρ x)) = (parts.toList.map fun (i, x) => (i, ρ' x)) := by
      refine List.map_congr_left fun p hp => ?_
      have := h p.2 (by simp only [Op.operands]; simp; exact ⟨p.1, by simpa using hp⟩)
      obtain ⟨i, x⟩ := p
      simp only at this ⊢
      rw [this]
    simp only [opR, e]
  case call c =>
    obtain ⟨callee, args, ts⟩ := c
    cases callee with
    | value f =>
      have e1 : ρ f = ρ' f := h f (by simp [Op.operands, Call.operands])
      have e2 : args.toList.map ρ = args.toList.map ρ' := hm fun x hx => h x (by simp [Op.operands, Call.operands]; right; simpa using hx)
      simp only [opR, e1, e2]
    | builtin b =>
      have e2 : ∀ x ∈ args.toList, ρ x = ρ' x := fun x hx => h x (by simp [Op.operands, Call.operands]; simpa using hx)
      have e3 := hm e2
      cases b <;> simp only [opR, e3]
      all_goals
        generalize args.toList = l at e2
        match l with
        | [] => rfl
        | [x] => simp only [e2 x (by simp)]
        | [x, y] => simp only [e2 x (by simp), e2 y (by simp)]
        | x :: y :: z :: l => rfl
    | invoke r n => simp only [opR]
  case makeFunc fn first caps =>
    have e2 : caps.toList.map ρ = caps.toList.map ρ' := hm fun x hx => h x (by simp [Op.operands]; right; simpa using hx)
    simp only [opR, e2]
  case slice t x lo hi mx =>
    have e1 : ρ x = ρ' x := h x (by simp [Op.operands])
    have e2 : ∀ (d : Int), boundI ρ lo d = boundI ρ' lo d := by
      intro d
      cases lo with
      | none => rfl
      | some y => simp only [boundI, h y (by simp [Op.operands])]
    have e3 : ∀ (d : Int), boundI ρ hi d = boundI ρ' hi d := by
      intro d
      cases hi with
      | none => rfl
      | some y => simp only [boundI, h y (by simp [Op.operands])]
    simp only [opR, e1, e2, e3]
  all_goals (simp only [Op.operands] at h; simp at h; simp only [opR, h])

theorem look_ev {tm tm' : TM} {x : Operand} (h : ∀ t, x = .tmp t → look tm' t = look tm t) : ev tm' x = ev tm x := by
  cases x with
  | tmp t => simp only [ev, h t rfl]
  | _ => rfl

theorem mem_looksAt {o : Oper} {t : Tmp} (h : Operand.tmp t ∈ o.op.operands) : t ∈ o.looksAt ops := by
  unfold Oper.looksAt
  refine List.mem_append.2 (.inl (List.mem_filterMap.2 ⟨_, Array.mem_toList_iff.2 h, rfl⟩))

theorem stepA_congr {i : Nat} {o : Oper} {tm tm' : TM} {L L' : Nat → Option Bx} {rs : List Nat} {us : List (Nat × Bx)} {v : V} (h : stepA P C sz ops nx i o tm L rs us v)
    (ht : ∀ t ∈ o.looksAt ops, look tm' t = look tm t) (hL : ∀ b ∈ rs, L' b = L b) : stepA P C sz ops nx i o tm' L' rs us v := by
  have hop : opR P C (nx + i) (ev tm') o.op = opR P C (nx + i) (ev tm) o.op := opR_congr fun x hx => look_ev fun t e => ht t (by subst e; exact mem_looksAt hx)
  obtain ⟨h1, h2⟩ := h
  refine ⟨h1, ?_⟩
  cases hg : o.guard with
  | none =>
    rw [hg] at h2
    simp only at h2 ⊢
    rw [hop]
    exact RM.ex_congr _ _ _ _ _ _ h2 hL
  | some q =>
    obtain ⟨j, want⟩ := q
    rw [hg] at h2
    simp only at h2 ⊢
    obtain ⟨d, e1, e23⟩ := h2
    have hd : look tm' d = look tm d := by
      rw [ht d]
      unfold Oper.looksAt
      refine List.mem_append.2 (.inr ?_)
      rw [hg]
      rw [Array.getElem?_toList] at e1
      simp [e1]
    refine ⟨d, e1, ?_⟩
    rw [hd]
    rcases e23 with ⟨b, e2, e3⟩ | e2
    · refine .inl ⟨b, e2, ?_⟩
      split
      · next hb =>
        rw [if_pos hb] at e3
        rw [hop]
        exact RM.ex_congr _ _ _ _ _ _ e3 hL
      · next hb => rw [if_neg hb] at e3; exact e3
    · exact .inr e2

theorem Eqv.cons {α : Type} {s t : List (Nat × α)} (h : Eqv s t) (us : List (Nat × α)) : Eqv (us ++ s) (us ++ t) := fun j => by rw [look_append, look_append, h j]

theorem Eqv.put {s t : TM} (h : Eqv s t) (d : Option Nat) (v : V) : Eqv (putT s d v) (putT t d v) := by
  cases d with
  | none => exact h
  | some i => intro j; simp only [putT, look_cons, h j]

theorem TrD_congr : ∀ {l : List (Nat × Oper)} {tm tm' : TM} {st st' : ST} {fs : List FP}, TrD P C sz ops nx l tm st fs → Eqv tm' tm → Eqv st' st →
    TrD P C sz ops nx l tm' st' fs ∧ Eqv (endTm l tm' fs) (endTm l tm fs) ∧ Eqv (endSt fs st') (endSt fs st)
  | [], tm, tm', st, st', [], h, e1, e2 => ⟨trivial, e1, e2⟩
  | [], _, _, _, _, _ :: _, h, _, _ => h.elim
  | _ :: _, _, _, _, _, [], h, _, _ => by simp [TrD] at h
  | (i, o) :: l, tm, tm', st, st', (rs, us, v) :: fs, ⟨h1, h2⟩, e1, e2 => by
    obtain ⟨q1, q2, q3⟩ := TrD_congr h2 (e1.put o.dst v) (e2.cons us)
    exact ⟨⟨stepA_congr h1 (fun t _ => e1 t) (fun b _ => e2 b), q1⟩, q2, q3⟩

/-- Two steps that have nothing in common. -/
def Indep (ops : Array Oper) (x y : Oper) (f g : FP) : Prop :=
  x.apart ops y = true ∧ (∀ b ∈ f.2.1.map (·.1), b ∉ g.1 ∧ b ∉ g.2.1.map (·.1)) ∧ (∀ b ∈ g.2.1.map (·.1), b ∉ f.1)

theorem look_put_ne {tm : TM} {d : Option Nat} {v : V} {t : Nat} (h : d ≠ some t) : look (putT tm d v) t = look tm t := by
  cases d with
  | none => rfl
  | some i => rw [putT, look_cons, if_neg (fun e => h (by rw [e]))]

/-- A step that is independent of those before it can be taken first. -/
theorem TrD_first : ∀ {l1 l2 : List (Nat × Oper)} {i : Nat} {o : Oper} {tm : TM} {st : ST} {f1 f2 : List FP} {f : FP}, l1.length = f1.length → TrD P C sz ops nx (l1 ++ (i, o) :: l2) tm st (f1 ++ f :: f2) →
    (∀ (k : Nat) (p : Nat × Oper) (g : FP), l1[k]? = some p → f1[k]? = some g → Indep ops p.2 o g f) →
    TrD P C sz ops nx ((i, o) :: (l1 ++ l2)) tm st (f :: (f1 ++ f2)) ∧ Eqv (endTm ((i, o) :: (l1 ++ l2)) tm (f :: (f1 ++ f2))) (endTm (l1 ++ (i, o) :: l2) tm (f1 ++ f :: f2)) ∧
      Eqv (endSt (f :: (f1 ++ f2)) st) (endSt (f1 ++ f :: f2) st)
  | [], l2, i, o, tm, st, [], f2, f, _, h, _ => ⟨h, fun _ => rfl, fun _ => rfl⟩
  | [], _, _, _, _, _, _ :: _, _, _, hl, _, _ => by simp at hl
  | _ :: _, _, _, _, _, _, [], _, _, hl, _, _ => by simp at hl
  | (j, oj) :: l1, l2, i, o, tm, st, (rj, uj, vj) :: f1, f2, f, hl, h, hi => by
    obtain ⟨h1, h2⟩ := h
    obtain ⟨q1, q2, q3⟩ := TrD_first (by simpa using hl) h2 (fun k p g hp hg => hi (k + 1) p g (by simpa using hp) (by simpa using hg))
    obtain ⟨ri, ui, vi⟩ := f
    obtain ⟨q4, q5⟩ := q1
    obtain ⟨i1, i2, i3⟩ := hi 0 _ _ rfl rfl
    obtain ⟨a1, a2, a3⟩ := Oper.apart_spec i1
    simp only at i2 i3 a1 a2 a3
    have e1 : stepA P C sz ops nx i o tm (look st) ri ui vi := stepA_congr q4 (fun t ht => by
      rw [look_put_ne]
      intro e
      exact a1 t e ht) (fun b hb => by
      rw [look_append, look_none (fun hm => (i2 b hm).1 hb)]; rfl)
    have e2 : stepA P C sz ops nx j oj (putT tm o.dst vi) (look (ui ++ st)) rj uj vj := stepA_congr h1 (fun t ht => look_put_ne fun e => a3 t e ht) (fun b hb => by
      rw [look_append, look_none (fun hm => i3 b hm hb)]; rfl)
    have et : Eqv (putT (putT tm o.dst vi) oj.dst vj) (putT (putT tm oj.dst vj) o.dst vi) := by
      intro t
      by_cases c1 : oj.dst = some t
      · have c2 : o.dst ≠ some t := a2 t c1
        rw [look_put_ne c2, c1]
        simp only [putT, look_cons, if_true]
      · rw [look_put_ne c1]
        by_cases c2 : o.dst = some t
        · rw [c2]; simp only [putT, look_cons, if_true]
        · rw [look_put_ne c2, look_put_ne c2, look_put_ne c1]
    have es : Eqv (uj ++ (ui ++ st)) (ui ++ (uj ++ st)) := by
      intro b
      rw [look_append, look_append, look_append, look_append]
      by_cases c1 : b ∈ uj.map (·.1)
      · rw [look_none (us := ui) (i2 b c1).2]; simp
      · rw [look_none c1]; simp
    obtain ⟨t1, t2, t3⟩ := TrD_congr q5 et es
    exact ⟨⟨e1, e2, t1⟩, fun t => (t2 t).trans (q2 t), fun b => (t3 b).trans (q3 b)⟩

theorem enumL_get : ∀ {os : List Oper} {i k : Nat} {p : Nat × Oper}, (enumL i os)[k]? = some p → p.1 = i + k ∧ os[k]? = some p.2
  | [], _, _, _, h => by simp [enumL] at h
  | o :: os, i, 0, p, h => by simp [enumL] at h; subst h; simp
  | o :: os, i, k + 1, p, h => by
    simp only [enumL, List.getElem?_cons_succ] at h
    obtain ⟨h1, h2⟩ := enumL_get h
    exact ⟨by omega, by simpa using h2⟩

theorem enumL_length : ∀ (os : List Oper) (i : Nat), (enumL i os).length = os.length
  | [], _ => rfl
  | o :: os, i => by simp [enumL, enumL_length os (i + 1)]

/-- Ordered, or independent. -/
def Free (ops : Array Oper) (p q : Nat × Oper) (f g : FP) : Prop := (∃ e ∈ q.2.after, Region.binds .any e = true ∧ e.on = p.1) ∨ Indep ops p.2 q.2 f g

theorem indepB_spec {i : Nat} {o : Oper} {rs ws : List Nat} {prev : List (Nat × Oper × List Nat × List Nat)} (h : indepB ops o rs ws prev = true) {j : Nat} {oj : Oper} {rj wj : List Nat}
    (hm : (j, oj, rj, wj) ∈ prev) {f g : FP} (h1 : ∀ b, b ∈ rj ↔ b ∈ f.1) (h2 : ∀ b, b ∈ wj ↔ b ∈ f.2.1.map (·.1)) (h3 : ∀ b, b ∈ rs ↔ b ∈ g.1) (h4 : ∀ b, b ∈ ws ↔ b ∈ g.2.1.map (·.1)) : Free ops (j, oj) (i, o) f g := by
  have := List.all_eq_true.1 h _ hm
  simp only [Bool.or_eq_true, Bool.and_eq_true, List.all_eq_true, Bool.not_eq_true', List.contains_eq_mem, decide_eq_false_iff_not] at this
  rcases this with h5 | ⟨⟨h5, h6⟩, h7⟩
  · left
    rw [Array.any_eq_true] at h5
    obtain ⟨q, hq, hb⟩ := h5
    simp only [Bool.and_eq_true, beq_iff_eq] at hb
    exact ⟨_, Array.getElem_mem hq, hb.1, hb.2⟩
  · right
    refine ⟨h5, fun b hb => ?_, fun b hb => ?_⟩
    · have := h6 b ((h2 b).2 hb)
      exact ⟨fun e => this.1 ((h3 b).2 e), fun e => this.2 ((h4 b).2 e)⟩
    · have := h7 b ((h4 b).2 hb)
      exact fun e => this ((h1 b).2 e)

def TrEx (P : Program) (C : FuncId → Option Con) (sz : Nat) (ops : Array Oper) (nx : Nat) (K : TM → ST → Prop) (os : List Oper) (i : Nat) (tm : TM) (st : ST) (prev : List (Nat × Oper × List Nat × List Nat)) : Prop :=
    ∃ fs : List FP, fs.length = os.length ∧ TrD P C sz ops nx (enumL i os) tm st fs ∧ K (endTm (enumL i os) tm fs) (endSt fs st) ∧
      (∀ (a b : Nat) (p q : Nat × Oper) (f g : FP), a < b → (enumL i os)[a]? = some p → (enumL i os)[b]? = some q → fs[a]? = some f → fs[b]? = some g → Free ops p q f g) ∧
      (∀ (b : Nat) (q : Nat × Oper) (f g : FP) (j : Nat) (oj : Oper) (rj wj : List Nat), (j, oj, rj, wj) ∈ prev → (enumL i os)[b]? = some q → fs[b]? = some g → (∀ b, b ∈ rj ↔ b ∈ f.1) → (∀ b, b ∈ wj ↔ b ∈ f.2.1.map (·.1)) → Free ops (j, oj) q f g)

theorem evOpsD_tr {K : TM → ST → Prop} : ∀ (os : List Oper) (i : Nat) (tm : TM) (st : ST) (prev : List (Nat × Oper × List Nat × List Nat)), evOpsD P C sz ops nx os i tm st prev K → TrEx P C sz ops nx K os i tm st prev
  | [], i, tm, st, prev, h => ⟨[], rfl, trivial, h, by simp [enumL], by simp [enumL]⟩
  | o :: os, i, tm, st, prev, h => by
    simp only [evOpsD] at h
    split at h
    · cases h
    · next hd =>
      have main : ∀ (rs : List Nat) (us : List (Nat × Bx)) (v : V) (rs1 ws1 : List Nat), stepA P C sz ops nx i o tm (look st) rs us v → (∀ b, b ∈ rs1 ↔ b ∈ rs) → (∀ b, b ∈ ws1 ↔ b ∈ us.map (·.1)) →
          (match indepB ops o rs1 ws1 prev with
            | false => False
            | true => evOpsD P C sz ops nx os (i + 1) (putT tm o.dst v) (us ++ st) ((i, o, rs1, ws1) :: prev) K) →
          TrEx P C sz ops nx K (o :: os) i tm st prev := by
        intro rs us v rs1 ws1 hs e1 e2 hm
        split at hm
        · cases hm
        · next hind =>
          obtain ⟨fs, q1, q2, q3, q4, q5⟩ := evOpsD_tr os (i + 1) _ _ _ hm
          refine ⟨(rs, us, v) :: fs, by simp [q1], ⟨hs, q2⟩, q3, ?_, ?_⟩
          · intro a b p q f g hab hp hq hf hg
            cases b with
            | zero => omega
            | succ b =>
              simp only [enumL, List.getElem?_cons_succ] at hq hg
              cases a with
              | zero =>
                simp only [enumL, List.getElem?_cons_zero, Option.some.injEq] at hp hf
                subst hp hf
                exact q5 b q (rs, us, v) g i o rs1 ws1 (by simp) hq hg e1 e2
              | succ a =>
                simp only [enumL, List.getElem?_cons_succ] at hp hf
                exact q4 a b p q f g (by omega) hp hq hf hg
          · intro b q f g j oj rj wj hmem hq hg h1 h2
            cases b with
            | zero =>
              simp only [enumL, List.getElem?_cons_zero, Option.some.injEq] at hq hg
              subst hq hg
              exact indepB_spec hind hmem h1 h2 e1 e2
            | succ b =>
              simp only [enumL, List.getElem?_cons_succ] at hq hg
              exact q5 b q f g j oj rj wj (by simp [hmem]) hq hg h1 h2
      have run : (opR P C (nx + i) (ev tm) o.op).goT st [] [] (fun v st' rs ws => match indepB ops o rs ws prev with
            | false => False
            | true => evOpsD P C sz ops nx os (i + 1) (putT tm o.dst v) st' ((i, o, rs, ws) :: prev) K) → (∀ rs us v, (opR P C (nx + i) (ev tm) o.op).ex (look st) rs us v → stepA P C sz ops nx i o tm (look st) rs us v) → TrEx P C sz ops nx K (o :: os) i tm st prev := by
        intro hg hst
        obtain ⟨rs, us, v, rs1, ws1, w1, w2, w3, w4⟩ := RM.goT_ex _ _ _ _ _ hg
        exact main rs us v rs1 ws1 (hst _ _ _ w1) (by simpa using w3) (by simpa using w4) w2
      split at h
      · next hgd => exact run h (fun rs us v w => ⟨hd, by rw [hgd]; exact w⟩)
      · next j want hgd =>
        split at h
        · cases h
        · next d hdj =>
          split at h
          · next b hb =>
            have skip : b ≠ want → (match indepB ops o [] [] prev with
                | false => False
                | true => evOpsD P C sz ops nx os (i + 1) (putT tm o.dst vU) st ((i, o, [], []) :: prev) K) → TrEx P C sz ops nx K (o :: os) i tm st prev := fun hne hs => main [] [] vU [] [] ⟨hd, by rw [hgd]; exact ⟨d, hdj, .inl ⟨b, hb, by rw [if_neg hne]; exact ⟨rfl, rfl, rfl⟩⟩⟩⟩ (by simp) (by simp) hs
            have take : b = want → ((opR P C (nx + i) (ev tm) o.op).goT st [] [] (fun v st' rs ws => match indepB ops o rs ws prev with
                | false => False
                | true => evOpsD P C sz ops nx os (i + 1) (putT tm o.dst v) st' ((i, o, rs, ws) :: prev) K)) → TrEx P C sz ops nx K (o :: os) i tm st prev := fun he hg => run hg (fun rs us v w => ⟨hd, by rw [hgd]; exact ⟨d, hdj, .inl ⟨b, hb, by rw [if_pos he]; exact w⟩⟩⟩)
            cases want
            · obtain ⟨g1, g2⟩ := br_elim h
              cases b
              · exact take rfl (g2 rfl)
              · exact skip (by simp) (g1 rfl)
            · obtain ⟨g1, g2⟩ := br_elim h
              cases b
              · exact skip (by simp) (g2 rfl)
              · exact take rfl (g1 rfl)
          · next arr hb => exact main [] [] vU [] [] ⟨hd, by rw [hgd]; exact ⟨d, hdj, .inr ⟨⟨arr, hb⟩, rfl, rfl, rfl⟩⟩⟩ (by simp) (by simp) h
          · cases h
end
end Go.Ev
/- Regions whose order is open: whatever order the tape gives. -/
set_option linter.unusedVariables false
set_option linter.unusedSimpArgs false
namespace Go.Ev
open Go.RowKit

section
variable {P : Program} {C : FuncId → Option Con} {sz : Nat} {ops : Array Oper} {nx : Nat}

theorem Rel.congrT {O : Nat → Prop} {w0 : World} {F0 : FZ} {M0 : MP} {D : List Deferred} {U : Nat → Prop} {F : FZ} {m : MP} {sz : Nat} {tm tm' : TM} {st : ST} {a : Act} {w : World}
    (h : Rel O w0 F0 M0 D U F m sz tm st a w) (hl : Eqv tm' tm) : Rel O w0 F0 M0 D U F m sz tm' st a w :=
  { h with htm := fun i => by rw [hl i]; exact h.htm i }

/-- What is left to be done, while some are done. -/
structure Left (ops : Array Oper) (listed : Array Bool) (l : List (Nat × Oper)) (fs : List FP) : Prop where
  len : l.length = fs.length
  mem : ∀ i o, (i, o) ∈ l → ops[i]? = some o ∧ listed.getD i true = false
  all : ∀ i o, ops[i]? = some o → listed.getD i true = false → (i, o) ∈ l
  asc : l.Pairwise (fun p q => p.1 < q.1)
  free : ∀ (a b : Nat) (p q : Nat × Oper) (f g : FP), a < b → l[a]? = some p → l[b]? = some q → fs[a]? = some f → fs[b]? = some g → Free ops p q f g
  size : listed.size = ops.size

theorem getD_of_lt {listed : Array Bool} {i : Nat} (h : i < listed.size) (d d' : Bool) : listed.getD i d = listed.getD i d' := by
  simp [Array.getD, h]

theorem split_at {α : Type} : ∀ {l : List α} {x : α}, x ∈ l → ∃ l1 l2, l = l1 ++ x :: l2
  | y :: l, x, h => by
    cases h with
    | head => exact ⟨[], l, rfl⟩
    | tail _ h => obtain ⟨l1, l2, rfl⟩ := split_at h; exact ⟨y :: l1, l2, rfl⟩

theorem split_same {α β : Type} : ∀ {l1 : List α} {x : α} {l2 : List α} {fs : List β}, (l1 ++ x :: l2).length = fs.length → ∃ f1 f f2, fs = f1 ++ f :: f2 ∧ f1.length = l1.length ∧ f2.length = l2.length
  | [], x, l2, [], h => by simp at h
  | [], x, l2, f :: fs, h => ⟨[], f, fs, rfl, rfl, by simpa using h.symm⟩
  | y :: l1, x, l2, [], h => by simp at h
  | y :: l1, x, l2, f :: fs, h => by
    obtain ⟨f1, g, f2, rfl, h1, h2⟩ := split_same (l1 := l1) (x := x) (l2 := l2) (fs := fs) (by simpa using h)
    exact ⟨f :: f1, g, f2, rfl, by simp [h1], h2⟩

theorem anyOrder (hC : CtxOK P C) {FF : Fence} (hW : Wide FF) (hahead : ∀ i o, ops[i]? = some o → ∀ e ∈ o.after, Region.binds .any e = true → e.on < i) {O : Nat → Prop} {w0 : World} {F0 : FZ} {M0 : MP} {D : List Deferred} {Q : Exit → Act → World → Prop} {tmE : TM} {stE : ST}
    (hend : ∀ F m a w, Rel O w0 F0 M0 D (fun b => nx + ops.size ≤ b) F m sz tmE stE a w → Q .normal a w) :
    ∀ (n : Nat) (listed : Array Bool) (l : List (Nat × Oper)) (fs : List FP) (F : FZ) (m : MP) (tm : TM) (st : ST) (a : Act) (w : World), l.length = n → Left ops listed l fs →
      Rel O w0 F0 M0 D (fun b => nx ≤ b ∧ (b < nx + ops.size → listed.getD (b - nx) true = false)) F m sz tm st a w → TrD P C sz ops nx l tm st fs → Eqv (endTm l tm fs) tmE → Eqv (endSt fs st) stE →
      wpAnyIn FF 0 P .any ops Q n listed a w
  | 0, listed, l, fs, F, m, tm, st, a, w, hn, hL, h, ht, e1, e2 => by
    obtain rfl : l = [] := List.eq_nil_of_length_eq_zero hn
    obtain rfl : fs = [] := List.eq_nil_of_length_eq_zero (by rw [← hL.len]; rfl)
    have hr : Region.ready .any ops listed = [] := by
      cases hr : Region.ready .any ops listed with
      | nil => rfl
      | cons i rs =>
        obtain ⟨h1, o, ho, _⟩ := mem_ready.1 (show i ∈ Region.ready .any ops listed by rw [hr]; simp)
        cases hL.all i o ho h1
    exact ⟨hr, hend F m a w (((h.congrT fun j => (e1 j).symm).congr fun j => (e2 j).symm).weakU fun b hb => ⟨by omega, fun hb2 => by omega⟩)⟩
  | n + 1, listed, l, fs, F, m, tm, st, a, w, hn, hL, h, ht, e1, e2 => by
    refine ⟨fun hr => ?_, fun i hi => ?_⟩
    · -- some operation is ready
      exfalso
      match l, hn with
      | (i, o) :: l, _ =>
        obtain ⟨ho, hlist⟩ := hL.mem i o (by simp)
        have : i ∈ Region.ready .any ops listed := by
          refine mem_ready.2 ⟨hlist, o, ho, fun e he hb => ?_⟩
          have hlt := hahead i o ho e he hb
          have hi : i < ops.size := (Array.getElem?_eq_some_iff.1 ho).1
          have hel : e.on < listed.size := by rw [hL.size]; omega
          rw [getD_of_lt hel false true]
          cases hc : listed.getD e.on true with
          | true => rfl
          | false =>
            have hm := hL.all e.on ops[e.on] (by simp) hc
            have hasc := hL.asc
            simp only [List.pairwise_cons] at hasc
            rcases List.mem_cons.1 hm with hm | hm
            · have := congrArg Prod.fst hm; simp only at this; omega
            · have := hasc.1 _ hm; simp only at this; omega
        rw [hr] at this
        cases this
    · obtain ⟨hlist, o, ho, hpre⟩ := mem_ready.1 hi
      have hmem := hL.all i o ho hlist
      obtain ⟨l1, l2, rfl⟩ := split_at hmem
      obtain ⟨f1, f, f2, rfl, hl1, hl2⟩ := split_same hL.len
      have hi' : i < ops.size := (Array.getElem?_eq_some_iff.1 ho).1
      obtain ⟨q1, q2, q3⟩ := TrD_first hl1.symm ht (by
        intro k p g hp hg
        have hk : k < l1.length := (List.getElem?_eq_some_iff.1 hp).1
        have hfree := hL.free k l1.length p (i, o) g f hk (by rw [List.getElem?_append_left hk]; exact hp) (by simp) (by rw [List.getElem?_append_left (by omega)]; exact hg) (by rw [← hl1]; simp)
        rcases hfree with ⟨e, he, hb, hon⟩ | hind
        · exfalso
          obtain ⟨j, oj⟩ := p
          obtain ⟨_, hj⟩ := hL.mem j oj (List.mem_append.2 (.inl (List.mem_of_getElem? hp)))
          have := hpre e he hb
          simp only at hon
          subst hon
          have hjs : e.on < listed.size := by
            rw [hL.size]
            have := hahead i o ho e he hb
            omega
          rw [getD_of_lt hjs false true, hj] at this
          cases this
        · exact hind)
      obtain ⟨rs, us, v⟩ := f
      obtain ⟨s1, s2⟩ := q1
      obtain ⟨hd, hs⟩ := s1
      -- what is left behind this step
      have hL2 : Left ops (listed.setIfInBounds i true) (l1 ++ l2) (f1 ++ f2) := by
        have hne : ∀ j o', (j, o') ∈ l1 ++ l2 → j ≠ i := by
          intro j o' hm
          have hasc := hL.asc
          rw [List.pairwise_append] at hasc
          obtain ⟨_, a2, a3⟩ := hasc
          simp only [List.pairwise_cons] at a2
          rcases List.mem_append.1 hm with hm | hm
          · have := a3 _ hm (i, o) (by simp); simp only at this; omega
          · have := a2.1 _ hm; simp only at this; omega
        refine { len := by simp [hl1, hl2], mem := ?_, all := ?_, asc := ?_, free := ?_, size := by simp [hL.size] }
        · intro j o' hm
          obtain ⟨h1, h2⟩ := hL.mem j o' (by rcases List.mem_append.1 hm with hm | hm <;> simp [hm])
          refine ⟨h1, ?_⟩
          rw [Array.getD_eq_getD_getElem?, Array.getElem?_setIfInBounds_ne (fun e => hne j o' hm e.symm), ← Array.getD_eq_getD_getElem?]
          exact h2
        · intro j o' hj hl
          have hji : j ≠ i := by
            rintro rfl
            simp [Array.getD_eq_getD_getElem?, hL.size, hi'] at hl
          rw [Array.getD_eq_getD_getElem?, Array.getElem?_setIfInBounds_ne (fun e => hji e.symm), ← Array.getD_eq_getD_getElem?] at hl
          have := hL.all j o' hj hl
          rcases List.mem_append.1 this with hm | hm
          · exact List.mem_append.2 (.inl hm)
          · cases hm with
            | head => exact absurd rfl hji
            | tail _ hm => exact List.mem_append.2 (.inr hm)
        · have hasc := hL.asc
          exact hasc.sublist (List.Sublist.append_left (List.sublist_cons_self _ _) _)
        · intro x y p q f' g hxy hp hq hf hg
          -- positions with the step taken out
          have up : ∀ {α : Type} {A B : List α} {c : α} {k : Nat} {z : α}, (A ++ B)[k]? = some z → (A ++ c :: B)[if k < A.length then k else k + 1]? = some z := by
            intro α A B c k z hz
            by_cases hk : k < A.length
            · rw [if_pos hk, List.getElem?_append_left hk]
              rwa [List.getElem?_append_left hk] at hz
            · rw [if_neg hk, List.getElem?_append_right (by omega)]
              rw [List.getElem?_append_right (by omega)] at hz
              have : k + 1 - A.length = k - A.length + 1 := by omega
              rw [this, List.getElem?_cons_succ]
              exact hz
          have hp' := up (c := (i, o)) hp
          have hq' := up (c := (i, o)) hq
          have hf' := up (c := ((rs, us, v) : FP)) hf
          have hg' := up (c := ((rs, us, v) : FP)) hg
          rw [hl1] at hf' hg'
          refine hL.free _ _ p q f' g ?_ hp' hq' hf' hg'
          split <;> split <;> omega
      have hU : ∀ b, (nx ≤ b ∧ (b < nx + ops.size → (listed.setIfInBounds i true).getD (b - nx) true = false)) → (nx ≤ b ∧ (b < nx + ops.size → listed.getD (b - nx) true = false)) ∧ b ≠ nx + i := by
        rintro b ⟨h1, h2⟩
        have hne : b ≠ nx + i := by
          rintro rfl
          have := h2 (by omega)
          rw [show nx + i - nx = i by omega] at this
          simp [Array.getD_eq_getD_getElem?, hL.size, hi'] at this
        refine ⟨⟨h1, fun hb => ?_⟩, hne⟩
        have := h2 hb
        rw [Array.getD_eq_getD_getElem?, Array.getElem?_setIfInBounds_ne (by omega), ← Array.getD_eq_getD_getElem?] at this
        exact this
      have next : ∀ F' m' a' w', Rel O w0 F0 M0 D (fun b => (nx ≤ b ∧ (b < nx + ops.size → listed.getD (b - nx) true = false)) ∧ b ≠ nx + i) F' m' sz (putT tm o.dst v) (us ++ st) a' w' →
          wpAnyIn FF 0 P .any ops Q n (listed.setIfInBounds i true) a' w' := by
        intro F' m' a' w' hR
        exact anyOrder hC hW hahead hend n _ (l1 ++ l2) (f1 ++ f2) F' m' _ _ a' w' (by simp at hn ⊢; omega) hL2 (hR.weakU hU) s2 (fun j => (q2 j).trans (e1 j)) (fun j => (q3 j).trans (e2 j))
      have run : (opR P C (nx + i) (ev tm) o.op).ex (look st) rs us v → o.wpIn FF 0 P a w (wpAnyIn FF 0 P .any ops Q n (listed.setIfInBounds i true)) Q := by
        intro hx
        refine op_ok hC o h (id := nx + i) ⟨by omega, fun _ => by rw [show nx + i - nx = i by omega]; exact hlist⟩ hd
          (K := fun v' st' => v' = v ∧ st' = us ++ st) (RM.ex_go _ _ _ _ _ _ hx ⟨rfl, rfl⟩) ?_ FF hW
        rintro F' m' v' st' a' w' hR ⟨rfl, rfl⟩
        exact next F' m' a' w' hR
      unfold wpOpIn
      simp only [ho]
      cases hg : o.guard with
      | none =>
        have hw : Region.wanted o (yielded ops a.tmps) = true := by simp [Region.wanted, hg]
        rw [if_pos hw]
        rw [hg] at hs
        exact run hs
      | some jw =>
        obtain ⟨j, want⟩ := jw
        rw [hg] at hs
        obtain ⟨d, d1, ⟨b, d2, d3⟩ | ⟨⟨arr, d2⟩, rfl, rfl, rfl⟩⟩ := hs
        rotate_left
        · have hy := yielded_not h d1 d2
          have hw : ¬ Region.wanted o (yielded ops a.tmps) = true := by simp [Region.wanted, hg, hy]
          rw [if_neg hw]
          exact ⟨fun f _ => hW.fn f, next F m _ w ((h.weakU fun b hb => hb.1).put hd (c := vU) rfl)⟩
        have hy := yielded_of h d1 d2
        by_cases hbw : b = want
        · have hw : Region.wanted o (yielded ops a.tmps) = true := by simp [Region.wanted, hg, hy, hbw]
          rw [if_pos hw]
          rw [if_pos hbw] at d3
          exact run d3
        · have hw : ¬ Region.wanted o (yielded ops a.tmps) = true := by simp [Region.wanted, hg, hy, hbw]
          rw [if_neg hw]
          rw [if_neg hbw] at d3
          obtain ⟨rfl, rfl, rfl⟩ := d3
          exact ⟨fun f _ => hW.fn f, next F m _ w ((h.weakU fun b hb => hb.1).put hd (c := vU) rfl)⟩

theorem enumL_mem : ∀ {os : List Oper} {i k : Nat} {o : Oper}, (k, o) ∈ enumL i os ↔ i ≤ k ∧ os[k - i]? = some o
  | [], i, k, o => by simp [enumL]
  | o' :: os, i, k, o => by
    simp only [enumL, List.mem_cons, Prod.mk.injEq, enumL_mem (os := os)]
    constructor
    · rintro (⟨rfl, rfl⟩ | ⟨h1, h2⟩)
      · simp
      · refine ⟨by omega, ?_⟩
        rw [show k - i = k - (i + 1) + 1 by omega, List.getElem?_cons_succ]
        exact h2
    · rintro ⟨h1, h2⟩
      by_cases e : k = i
      · subst e; simp at h2; exact .inl ⟨rfl, h2.symm⟩
      · right
        refine ⟨by omega, ?_⟩
        rw [show k - i = k - (i + 1) + 1 by omega, List.getElem?_cons_succ] at h2
        exact h2

theorem enumL_asc : ∀ (os : List Oper) (i : Nat), (enumL i os).Pairwise (fun p q => p.1 < q.1)
  | [], i => by simp [enumL]
  | o :: os, i => by
    simp only [enumL, List.pairwise_cons]
    refine ⟨fun p hp => ?_, enumL_asc os (i + 1)⟩
    obtain ⟨k, o'⟩ := p
    have := (enumL_mem.1 hp).1
    simp only
    omega

/-- A REGION WHOSE ORDER IS OPEN. -/
theorem evOpsD_sound (hC : CtxOK P C) {FF : Fence} (hW : Wide FF) (hm : P.follows .mixedOrders = true) (hah : aheadB ops.toList = true) {O : Nat → Prop} {w0 : World} {F0 : FZ} {M0 : MP} {D : List Deferred} {Q : Exit → Act → World → Prop} {K : TM → ST → Prop} {id : Nat}
    {F : FZ} {m : MP} {tm : TM} {st : ST} {a : Act} {w : World} (h : Rel O w0 F0 M0 D (fun b => nx ≤ b) F m sz tm st a w) (hg : evOpsD P C sz ops nx ops.toList 0 tm st [] K)
    (hn : ∀ F' m' tm' st' a' w', Rel O w0 F0 M0 D (fun b => nx + ops.size ≤ b) F' m' sz tm' st' a' w' → K tm' st' → Q .normal a' w') : (Code.region id ops true).wpIn FF 0 P Q a w := by
  obtain ⟨fs, q1, q2, q3, q4, _⟩ := evOpsD_tr ops.toList 0 tm st [] hg
  refine wpIn_region_any hm ?_
  refine anyOrder hC hW ?_ (fun F' m' a' w' hR => hn F' m' _ _ a' w' hR q3) ops.size _ (enumL 0 ops.toList) fs F m tm st a _ (by rw [enumL_length]; simp) ?_ ?_ q2 (fun _ => rfl) (fun _ => rfl)
  · intro i o ho e he hb
    have := List.all_eq_true.1 hah (i, o) (enumL_mem.2 ⟨by omega, by simpa using ho⟩)
    simp only [Array.all_eq_true_iff_forall_mem] at this
    have := this e he
    simpa [hb] using this
  · refine { len := by rw [enumL_length, q1], mem := ?_, all := ?_, asc := enumL_asc _ _, free := q4, size := by simp }
    · intro i o hm
      obtain ⟨_, h2⟩ := enumL_mem.1 hm
      have h3 : ops[i]? = some o := by simpa using h2
      have hi : i < ops.size := (Array.getElem?_eq_some_iff.1 h3).1
      exact ⟨h3, by simp [Array.getD_eq_getD_getElem?, hi]⟩
    · intro i o ho _
      exact enumL_mem.2 ⟨by omega, by simpa using ho⟩
  · refine Rel.drew (h.weakU fun b hb => hb.1)
end
end Go.Ev
/- A run of the model follows the evaluator: code, functions. -/
set_option linter.unusedVariables false
set_option linter.unusedSimpArgs false
namespace Go.Ev
open Go.RowKit

section
variable {P : Program} {C : FuncId → Option Con}

theorem wide_wide : Wide Fence.wide := ⟨fun _ => trivial, rfl, rfl⟩

theorem awp_sound (hC : CtxOK P C) {FF : Fence} (hW : Wide FF) (hmix : P.follows .mixedOrders = true) {O : Nat → Prop} {w0 : World} {F0 : FZ} {M0 : MP} {D : List Deferred} {sz pins : Nat} (hp : ∀ b y, M0 b = some y → b < pins) : ∀ (c : Code) (Q : AX → TM → ST → Nat → Prop) (QQ : Exit → Act → World → Prop) (F : FZ) (m : MP) (tm : TM) (st : ST) (nx : Nat) (a : Act) (w : World),
    Rel O w0 F0 M0 D (fun b => nx ≤ b) F m sz tm st a w → awp P C sz pins c Q tm st nx → (∀ e a w, Post O w0 F0 M0 D sz Q e a w → QQ e a w) → c.wpIn FF 0 P QQ a w
  | .skip, Q, QQ, F, m, tm, st, nx, a, w, h, hg, hq => wpIn_skip (hq .normal a w ⟨F, m, tm, st, nx, h, hg⟩)
  | .region id ops false, Q, QQ, F, m, tm, st, nx, a, w, h, hg, hq => by
    refine wpIn_region ?_
    have := evOps_sound hC hW (ops := ops) (Q := QQ) ops.toList 0 nx F m tm st a w rfl h hg (by
      intro F' m' tm' st' a' w' hR hK
      exact hq .normal a' w' ⟨F', m', tm', st', _, by simpa using hR, hK⟩)
    simpa using this
  | .seq x y, Q, QQ, F, m, tm, st, nx, a, w, h, hg, hq => by
    refine wpIn_seq ?_
    refine awp_sound hC hW hmix hp x _ _ F m tm st nx a w h hg ?_
    intro e a' w' hpo
    cases e with
    | normal =>
      obtain ⟨F', m', tm', st', nx', hR, hK⟩ := hpo
      exact awp_sound hC hW hmix hp y Q QQ F' m' tm' st' nx' a' w' hR hK hq
    | exit id => exact hq (.exit id) a' w' hpo
    | ret => exact hq .ret a' w' hpo
    | goto l => exact hpo.elim
    | panic c => exact hpo.elim
    | outgrown => exact hpo.elim
  | .cond c x y, Q, QQ, F, m, tm, st, nx, a, w, h, hg, hq => by
    simp only [awp] at hg
    split at hg
    · next b hb =>
      have he := h.ev c
      rw [hb] at he
      have he' : a.eval c = .bool b := he
      obtain ⟨g1, g2⟩ := br_elim hg
      refine wpIn_cond he' ?_
      cases b with
      | true => exact awp_sound hC hW hmix hp x Q QQ F m tm st nx a w h (g1 rfl) hq
      | false => exact awp_sound hC hW hmix hp y Q QQ F m tm st nx a w h (g2 rfl) hq
    · cases hg
  | .block id c, Q, QQ, F, m, tm, st, nx, a, w, h, hg, hq => by
    refine wpIn_block ?_
    refine awp_sound hC hW hmix hp c _ _ F m tm st nx a w h hg ?_
    intro e a' w' hpo
    cases e with
    | normal => exact hq .normal a' w' hpo
    | exit j =>
      obtain ⟨F', m', tm', st', nx', hR, hK⟩ := hpo
      simp only [Exit.inBlock]
      by_cases hj : j = id
      · rw [if_pos hj]
        simp only [hj, decide_true] at hK
        exact hq .normal a' w' ⟨F', m', tm', st', nx', hR, hK⟩
      · rw [if_neg hj]
        simp only [hj, decide_false] at hK
        exact hq (.exit j) a' w' ⟨F', m', tm', st', nx', hR, hK⟩
    | ret => exact hq .ret a' w' hpo
    | goto l => exact hpo.elim
    | panic c => exact hpo.elim
    | outgrown => exact hpo.elim
  | .loop c, Q, QQ, F, m, tm, st, nx, a, w, h, hg, hq => by
    obtain ⟨α, mk, μ, ⟨x0, r0, h0⟩, hround⟩ := hg
    refine wpIn_loop_ghost (fun n a w => ∃ x F m, μ x = n ∧ Rel O w0 F0 M0 D (fun b => (mk x).nx ≤ b) F m sz (mk x).tm (mk x).st a w) (μ x0) ⟨x0, F, _, rfl, h.sub hp h0⟩ ?_
    rintro n a w ⟨x, F, m, rfl, hR⟩
    refine awp_sound hC hW hmix hp c _ _ F m _ _ _ a w hR (hround x) ?_
    intro e a' w' hpo
    cases e with
    | normal =>
      obtain ⟨F', m', tm', st', nx', hR', y, r, hs, hlt⟩ := hpo
      exact ⟨μ y, hlt, y, F', _, rfl, hR'.sub hp hs⟩
    | exit id => exact hq (.exit id) a' w' hpo
    | ret => exact hq .ret a' w' hpo
    | goto l => exact hpo.elim
    | panic c => exact hpo.elim
    | outgrown => exact hpo.elim
  | .exit id, Q, QQ, F, m, tm, st, nx, a, w, h, hg, hq => wpIn_exit (hq (.exit id) a w ⟨F, m, tm, st, nx, h, hg⟩)
  | .ret, Q, QQ, F, m, tm, st, nx, a, w, h, hg, hq => wpIn_ret (hq .ret a w ⟨F, m, tm, st, nx, h, hg⟩)
  | .region id ops true, Q, QQ, F, m, tm, st, nx, a, w, h, hg, hq => by
    simp only [awp] at hg
    split at hg
    · next hah =>
      exact evOpsD_sound hC hW hmix hah h hg fun F' m' tm' st' a' w' hR hK => hq .normal a' w' ⟨F', m', tm', st', _, hR, hK⟩
    · cases hg
  | .rangeFunc _ _ _ _, Q, QQ, F, m, tm, st, nx, a, w, h, hg, hq => by simp [awp] at hg
  | .scope _, Q, QQ, F, m, tm, st, nx, a, w, h, hg, hq => by simp [awp] at hg
  | .label _, Q, QQ, F, m, tm, st, nx, a, w, h, hg, hq => by simp [awp] at hg
  | .goto _, Q, QQ, F, m, tm, st, nx, a, w, h, hg, hq => by simp [awp] at hg
  | .refuse _, Q, QQ, F, m, tm, st, nx, a, w, h, hg, hq => by simp [awp] at hg

theorem RM.go_bind (f : V → RM) (K : V → ST → Prop) : ∀ (r : RM) (st : ST), (r.bind f).go st K ↔ r.go st (fun v st' => (f v).go st' K)
  | .fail, st => Iff.rfl
  | .ret v, st => Iff.rfl
  | .req p k, st => by simp only [RM.bind, RM.go, go_bind f K k]
  | @RM.dec p k _, st => by simp only [RM.bind, RM.go, go_bind f K k]
  | .exi _ p k, st => by simp only [RM.bind, RM.go, fun x => go_bind f K (k x)]
  | .get b k, st => by
    simp only [RM.bind, RM.go]
    split
    · exact go_bind f K _ _
    · exact Iff.rfl
  | .put b x k, st => by simp only [RM.bind, RM.go, go_bind f K k]

/-- What a function's results read as. -/
def resOne (tmps : Array Value) : ResultVar → Sem Value
  | .tmp t => pure (tmps.getD t undef)
  | .cell a t => do loadVar t (← asAddr (tmps.getD a undef))

def packV : List Value → Value
  | [v] => v
  | vs => .tuple vs.toArray

theorem results_eq (fn : Func) (tmps : Array Value) (w : World) (vs : List Value) (h : (fn.results.toList.mapM (resOne tmps)).run P w = .ok vs w) :
    (results fn tmps).run P w = .ok (packV vs) w := by
  have e : fn.results.mapM (resOne tmps) = List.toArray <$> fn.results.toList.mapM (resOne tmps) := by
    conv => lhs; rw [show fn.results = fn.results.toList.toArray by simp]
    rw [List.mapM_toArray]
  show Sem.run P (do let vs ← fn.results.mapM (resOne tmps); pure (if h : vs.size = 1 then vs[0] else .tuple vs)) w = _
  rw [e]
  simp only [Sem.run_bind, Sem.run_map, h, Result.andThen_ok, Sem.run_pure]
  congr 1
  match vs with
  | [] => rfl
  | [v] => rfl
  | v :: v' :: vs => simp [packV]

theorem resR_sound {O : Nat → Prop} {w0 : World} {F0 : FZ} {M0 : MP} {D : List Deferred} {U : Nat → Prop} {m : MP} {sz : Nat} {tm : TM} {a : Act} {w : World} {K : V → ST → Prop} : ∀ (l : List ResultVar) (acc : List V) (vs : List Value) (F : FZ) (st : ST),
    Rel O w0 F0 M0 D U F m sz tm st a w → (resR P tm l acc).go st K → acc.length = vs.length → (∀ (i : Nat) (c : V) (x : Value), acc[i]? = some c → vs[i]? = some x → RV m F w.heap c x) →
    ∃ F' st' vs' c, Rel O w0 F0 M0 D U F' m sz tm st' a w ∧ (l.mapM (resOne a.tmps)).run P w = .ok vs' w ∧ RC F' w.heap c (packV (vs ++ vs')) ∧ K c st'
  | [], acc, vs, F, st, h, hg, hl, hv => by
    simp only [resR] at hg
    match acc, vs, hl with
    | [c], [x], _ =>
      obtain ⟨F1, st1, c1, r1, e1, r2, r3, _⟩ := fz_sound 4 c x _ st F K h (hv 0 c x rfl rfl) hg
      exact ⟨F1, st1, [], c1, r1, by simp, r2, r3⟩
    | [], [], _ =>
      obtain ⟨F1, st1, cs1, r1, e1, r2, r3, _⟩ := mapRM_sound (fz_sound 4) [] [] _ st F K h rfl (by simp) hg
      exact ⟨F1, st1, [], .tup cs1, r1, by simp, ⟨_, rfl, r2⟩, r3⟩
    | c :: d :: acc, x :: y :: vs, hl =>
      obtain ⟨F1, st1, cs1, r1, e1, r2, r3, _⟩ := mapRM_sound (fz_sound 4) (c :: d :: acc) (x :: y :: vs) _ st F K h hl hv hg
      exact ⟨F1, st1, [], .tup cs1, r1, by simp, ⟨(x :: y :: vs).toArray, by simp [packV], by simpa using r2⟩, r3⟩
  | .tmp t :: l, acc, vs, F, st, h, hg, hl, hv => by
    simp only [resR] at hg
    obtain ⟨F1, st1, vs1, c, r1, r2, r3, r4⟩ := resR_sound l (acc ++ [(look tm t).getD .top]) (vs ++ [a.tmps.getD t undef]) F st h hg (by simp [hl]) (by
      intro i c x hc hx
      by_cases hi : i < acc.length
      · rw [List.getElem?_append_left hi] at hc
        rw [List.getElem?_append_left (by omega)] at hx
        exact hv i c x hc hx
      · rw [List.getElem?_append_right (by omega)] at hc
        rw [List.getElem?_append_right (by omega), ← hl] at hx
        cases hi0 : i - acc.length with
        | zero => rw [hi0] at hc hx; simp at hc hx; subst hc hx; have := h.htm t; rwa [Array.getD_eq_getD_getElem?] at this
        | succ n => rw [hi0] at hc; simp at hc)
    refine ⟨F1, st1, a.tmps.getD t undef :: vs1, c, r1, ?_, by simpa using r3, r4⟩
    simp [List.mapM_cons, resOne, r2]
  | .cell p t :: l, acc, vs, F, st, h, hg, hl, hv => by
    simp only [resR] at hg
    rw [RM.go_bind] at hg
    obtain ⟨F0', st0, c0, v0, h0, e0, hrun, hv0, hg⟩ := load_sound (P := P) h hg
    obtain ⟨F1, st1, vs1, c, r1, r2, r3, r4⟩ := resR_sound l (acc ++ [c0]) (vs ++ [v0]) F0' st0 h0 hg (by simp [hl]) (by
      intro i c x hc hx
      by_cases hi : i < acc.length
      · rw [List.getElem?_append_left hi] at hc
        rw [List.getElem?_append_left (by omega)] at hx
        exact (hv i c x hc hx).mono (fun _ _ e => e) e0 (Keeps.refl _ _)
      · rw [List.getElem?_append_right (by omega)] at hc
        rw [List.getElem?_append_right (by omega), ← hl] at hx
        cases hi0 : i - acc.length with
        | zero => rw [hi0] at hc hx; simp at hc hx; subst hc hx; exact hv0
        | succ n => rw [hi0] at hc; simp at hc)
    refine ⟨F1, st1, v0 :: vs1, c, r1, ?_, by simpa using r3, r4⟩
    have hld : (resOne a.tmps (.cell p t)).run P w = .ok v0 w := by
      have e : a.eval (.tmp p) = a.tmps.getD p undef := rfl
      rw [e] at hrun
      simp only [resOne]
      cases hp : a.tmps.getD p undef with
      | pointer q =>
        rw [hp] at hrun
        cases q with
        | some q => simpa [asAddr, Instr.loadAt, Instr.sureAddr] using hrun
        | none => simp [Instr.loadAt, Instr.sureAddr, Result.andThen] at hrun
      | _ => rw [hp] at hrun; simp [Instr.loadAt, Instr.sureAddr, Result.andThen] at hrun
    simp [List.mapM_cons, hld, r2]

/-- The state at a function's begin. -/
def startT (avs : List V) : TM := (List.range avs.length).zip avs

theorem look_start : ∀ (avs : List V) (k i : Nat), look (((List.range' k avs.length)).zip avs) i = if k ≤ i then avs[i - k]? else none
  | [], k, i => by simp
  | c :: avs, k, i => by
    simp only [List.length_cons, List.range'_succ, List.zip_cons_cons, look_cons, look_start avs (k + 1) i]
    by_cases h : k = i
    · subst h; simp
    · rw [if_neg h]
      by_cases h2 : k + 1 ≤ i
      · rw [if_pos h2, if_pos (by omega)]
        have : i - k = i - (k + 1) + 1 := by omega
        rw [this, List.getElem?_cons_succ]
      · rw [if_neg h2, if_neg (by omega)]

/-- The boxes at a function's begin. -/
def startS (ps : List Bx) : ST := (List.range ps.length).zip ps

theorem look_starts : ∀ (ps : List Bx) (k i : Nat), look (((List.range' k ps.length)).zip ps) i = if k ≤ i then ps[i - k]? else none
  | [], k, i => by simp
  | c :: ps, k, i => by
    simp only [List.length_cons, List.range'_succ, List.zip_cons_cons, look_cons, look_starts ps (k + 1) i]
    by_cases h : k = i
    · subst h; simp
    · rw [if_neg h]
      by_cases h2 : k + 1 ≤ i
      · rw [if_pos h2, if_pos (by omega)]
        have : i - k = i - (k + 1) + 1 := by omega
        rw [this, List.getElem?_cons_succ]
      · rw [if_neg h2, if_neg (by omega)]

theorem look_startS (ps : List Bx) (i : Nat) : look (startS ps) i = ps[i]? := by
  unfold startS
  rw [List.range_eq_range', look_starts ps 0 i]
  simp

/-- The boxes at a function's end. -/
def postB : Nat → List Bx → ST → Prop
  | _, [], _ => True
  | i, p :: ps, st => look st i = some p ∧ postB (i + 1) ps st

theorem postB_get : ∀ {ps : List Bx} {k : Nat} {st : ST}, postB k ps st → ∀ (i : Nat) (p : Bx), ps[i]? = some p → look st (k + i) = some p
  | [], _, _, _, i, p, h => by simp at h
  | q :: ps, k, st, ⟨h1, h2⟩, i, p, h => by
    cases i with
    | zero => simp at h; subst h; exact h1
    | succ i =>
      have := postB_get h2 i p (by simpa using h)
      rwa [show k + 1 + i = k + (i + 1) by omega] at this

/-- A FUNCTION: what the evaluator says of its body holds of its calls. -/
theorem soundV_of_awp (hC : CtxOK P C) (hmix : P.follows .mixedOrders = true) {f : FuncId} {fn : Func} {c : Code} (hf : P.funcs[f]? = some fn) (hb : fn.body = some c) {con : Con}
    (h : ∀ x, con.ok x → (con.enc x).length ≤ fn.ntmps ∧ awp P C fn.ntmps 0 c (fun e tm st nx => match e with
      | .exit _ => False
      | _ => (resR P tm fn.results.toList []).go st fun r _ => r = con.res x) (startT (con.enc x)) [] 0) : SoundV P f con := by
  intro x F w vs hF hv hok
  obtain ⟨hlen, hawp⟩ := h x hok
  generalize havs : con.enc x = avs at hlen hawp hv
  have hl := RCs_length hv
  refine callsIn_wide.1 (callsIn_of_wp (n := 0) hf hb trivial ?_)
  have hR : Rel (fun g => w.heap.size ≤ g) w F (fun _ => none) [] (fun b => 0 ≤ b) F (fun _ => none) fn.ntmps (startT avs) [] { tmps := vs.toArray ++ Array.replicate (fn.ntmps - vs.toArray.size) undef, defers := [] } w := by
    refine { htm := fun i => ?_, hsz := by simp; omega, hde := rfl, nst := ⟨_, NOK.nil⟩, hst := fun b x hx => by simp at hx, inj := fun b b' g c c' _ _ hm => (by cases hm), fresh := fun b _ => ⟨rfl, rfl⟩, pin := fun b y e => (by cases e), keep := Keeps.refl _ _, f0 := fun _ _ e => e, f1 := fun _ _ e => .inl e, f2 := hF, mlt := fun b g c hm => (by cases hm), below := Own.refl _ _, hb := fun _ e => e }
    have e : look (startT avs) i = avs[i]? := by
      unfold startT
      rw [List.range_eq_range', look_start avs 0 i]
      simp
    rw [e]
    cases hi : avs[i]? with
    | none => exact trivial
    | some c =>
      have hil : i < avs.length := (List.getElem?_eq_some_iff.1 hi).1
      have hx : vs[i]? = some (vs[i]'(by omega)) := List.getElem?_eq_getElem (by omega)
      have := ((RCs_iff.1 hv).2 i c _ hi hx).1
      simp only [Option.getD_some]
      have e2 : (vs.toArray ++ Array.replicate (fn.ntmps - vs.toArray.size) undef).getD i undef = vs[i]'(by omega) := by
        rw [Array.getD_eq_getD_getElem?, Array.getElem?_append_left (by simp; omega)]
        simp [hx]
      rw [e2]
      exact RV.of_RC this
  refine awp_sound (pins := 0) hC wide_wide hmix (fun b y e => by cases e) c _ _ F _ _ _ 0 _ w hR hawp ?_
  have fin : ∀ (a' : Act) (w' : World) (F' : FZ) (m' : MP) (tm' : TM) (st' : ST) (nx' : Nat), Rel (fun g => w.heap.size ≤ g) w F (fun _ => none) [] (fun b => nx' ≤ b) F' m' fn.ntmps tm' st' a' w' → (resR P tm' fn.results.toList []).go st' (fun r _ => r = con.res x) →
      a'.defers = [] ∧ ∃ v, (results fn a'.tmps).run P w' = .ok v w' ∧ ∃ v_1 F', Ending.returned v = Ending.returned v_1 ∧ Below w.heap.size w w' ∧ (∀ g j, F g j → F' g j) ∧ (∀ g j, F' g j → F g j ∨ w.heap.size ≤ g) ∧ (∀ g j, F' g j → g < w'.heap.size) ∧ RC F' w'.heap (con.res x) v_1 := by
    intro a' w' F' m' tm' st' nx' hR' hg
    obtain ⟨F1, st1, vs1, c1, r1, r2, r3, r4⟩ := resR_sound fn.results.toList [] [] F' st' hR' hg rfl (by simp)
    subst r4
    exact ⟨hR'.hde, _, results_eq fn a'.tmps w' vs1 r2, _, F1, rfl, r1.below.below, r1.f0, r1.f1, r1.f2, r3⟩
  intro e a' w' hpo
  cases e with
  | normal => obtain ⟨F', m', tm', st', nx', hR', hg⟩ := hpo; exact fin a' w' F' m' tm' st' nx' hR' hg
  | ret => obtain ⟨F', m', tm', st', nx', hR', hg⟩ := hpo; exact fin a' w' F' m' tm' st' nx' hR' hg
  | exit id => obtain ⟨F', m', tm', st', nx', hR', hg⟩ := hpo; exact hg.elim
  | goto l => exact hpo.elim
  | panic c => exact hpo.elim
  | outgrown => exact hpo.elim

theorem soundE_of_awp (hC : CtxOK P C) (hmix : P.follows .mixedOrders = true) {f : FuncId} {fn : Func} {c : Code} (hf : P.funcs[f]? = some fn) (hb : fn.body = some c) {con : Con} {e : Eff con.α}
    (h : ∀ x, con.ok x → (con.enc x).length ≤ fn.ntmps ∧ awp P C fn.ntmps (e.pre x).length c (fun en tm st nx => match en with
      | .exit _ => False
      | _ => (resR P tm fn.results.toList []).go st fun r st' => r = con.res x ∧ postB 0 (e.post x) st') (startT (con.enc x)) (startS (e.pre x)) (e.pre x).length) : SoundE P f con e := by
  intro x m F w vs hF hm hl hv hpre hinj hok
  obtain ⟨hlen, hawp⟩ := h x hok
  generalize havs : con.enc x = avs at hlen hawp hv hl
  refine callsIn_wide.1 (callsIn_of_wp (n := 0) hf hb trivial ?_)
  have hR : Rel (Handed m w) w F m [] (fun b => (e.pre x).length ≤ b) F m fn.ntmps (startT avs) (startS (e.pre x)) { tmps := vs.toArray ++ Array.replicate (fn.ntmps - vs.toArray.size) undef, defers := [] } w := by
    refine { htm := fun i => ?_, hsz := by simp; omega, hde := rfl, nst := nok_none fun b p hp => (hpre b p (by rwa [look_startS] at hp)).2, hst := fun b p hp => (hpre b p (by rwa [look_startS] at hp)).1, inj := fun b b' g c c' _ _ h1 h2 => hinj b b' g c c' h1 h2, fresh := fun b hb => ⟨?_, ?_⟩, pin := fun b y e => e, keep := Keeps.refl _ _, f0 := fun _ _ e => e, f1 := fun _ _ e => .inl e, f2 := hF, mlt := fun b g c hm' => (hm b g c hm').2, below := Own.refl _ _, hb := fun _ e => .inr e }
    · have e : look (startT avs) i = avs[i]? := by
        unfold startT
        rw [List.range_eq_range', look_start avs 0 i]
        simp
      rw [e]
      cases hi : avs[i]? with
      | none => exact trivial
      | some c =>
        have hil : i < avs.length := (List.getElem?_eq_some_iff.1 hi).1
        have hx : vs[i]? = some (vs[i]'(by omega)) := List.getElem?_eq_getElem (by omega)
        have := hv i c _ hi hx
        simp only [Option.getD_some]
        have e2 : (vs.toArray ++ Array.replicate (fn.ntmps - vs.toArray.size) undef).getD i undef = vs[i]'(by omega) := by
          rw [Array.getD_eq_getD_getElem?, Array.getElem?_append_left (by simp; omega)]
          simp [hx]
        rw [e2]
        exact this
    · rw [look_startS]; exact List.getElem?_eq_none hb
    · cases hb' : m b with
      | none => rfl
      | some y => have := (hm b y.1 y.2 hb').1; omega
  refine awp_sound (pins := (e.pre x).length) hC wide_wide hmix (fun b y hy => (hm b y.1 y.2 hy).1) c _ _ F _ _ _ _ _ w hR hawp ?_
  have fin : ∀ (a' : Act) (w' : World) (F' : FZ) (m' : MP) (tm' : TM) (st' : ST) (nx' : Nat), Rel (Handed m w) w F m [] (fun b => nx' ≤ b) F' m' fn.ntmps tm' st' a' w' → (resR P tm' fn.results.toList []).go st' (fun r st2 => r = con.res x ∧ postB 0 (e.post x) st2) →
      a'.defers = [] ∧ ∃ v, (results fn a'.tmps).run P w' = .ok v w' ∧ ∃ v_1 F' m', Ending.returned v = Ending.returned v_1 ∧ Own (Handed m w) w w' ∧ Keeps F w.heap w'.heap ∧ (∀ b y, m b = some y → m' b = some y) ∧ (∀ g j, F g j → F' g j) ∧ (∀ g j, F' g j → F g j ∨ Handed m w g) ∧
      (∀ g j, F' g j → g < w'.heap.size) ∧ RC F' w'.heap (con.res x) v_1 ∧ ∀ (i : Nat) (p : Bx), (e.post x)[i]? = some p → RBx (Handed m w) m' F' w'.heap i p := by
    intro a' w' F' m' tm' st' nx' hR' hg
    obtain ⟨F1, st1, vs1, c1, r1, r2, r3, r4, r5⟩ := resR_sound fn.results.toList [] [] F' st' hR' hg rfl (by simp)
    subst r4
    refine ⟨hR'.hde, _, results_eq fn a'.tmps w' vs1 r2, _, F1, m', rfl, r1.below, r1.keep, r1.pin, r1.f0, r1.f1, r1.f2, r3, fun i p hp => ?_⟩
    have := postB_get r5 i p hp
    rw [Nat.zero_add] at this
    exact r1.hst i p this
  intro en a' w' hpo
  cases en with
  | normal => obtain ⟨F', m', tm', st', nx', hR', hg⟩ := hpo; exact fin a' w' F' m' tm' st' nx' hR' hg
  | ret => obtain ⟨F', m', tm', st', nx', hR', hg⟩ := hpo; exact fin a' w' F' m' tm' st' nx' hR' hg
  | exit id => obtain ⟨F', m', tm', st', nx', hR', hg⟩ := hpo; exact hg.elim
  | goto l => exact hpo.elim
  | panic c => exact hpo.elim
  | outgrown => exact hpo.elim

end
end Go.Ev
/- Contracts at hand. -/
set_option linter.unusedVariables false
set_option linter.unusedSimpArgs false
namespace Go.Ev

def ctx : List (FuncId × Con) → FuncId → Option Con
  | [], _ => none
  | (g, c) :: l, f => match Nat.beq g f with
    | true => some c
    | false => ctx l f

theorem ctx_nil {P : Program} : CtxOK P (ctx []) := fun _ _ h => by cases h
theorem ctx_cons {P : Program} {g : FuncId} {c : Con} {l : List (FuncId × Con)} (h : Sound P g c ∧ EntersOK P g) (k : CtxOK P (ctx l)) : CtxOK P (ctx ((g, c) :: l)) := by
  intro f c' hf
  simp only [ctx] at hf
  split at hf
  · next hb => have := Nat.eq_of_beq_eq_true hb; subst this; cases hf; exact h
  · exact k f c' hf

/-- A contract, and that the function is entered. -/
def Has (P : Program) (f : FuncId) (c : Con) : Prop := Sound P f c ∧ EntersOK P f

theorem has_of {P : Program} {C : FuncId → Option Con} (hC : CtxOK P C) (hmix : P.follows .mixedOrders = true) {f : FuncId} {fn : Func} {c : Code} (hf : P.funcs[f]? = some fn) (hb : fn.body = some c)
    (hn : (fn.name == "runtime.NumGoroutine") = false) {con : Con}
    (h : ∀ x, con.ok x → (con.enc x).length ≤ fn.ntmps ∧ awp P C fn.ntmps 0 c (fun e tm st nx => match e with
      | .exit _ => False
      | _ => (resR P tm fn.results.toList []).go st fun r _ => r = con.res x) (startT (con.enc x)) [] 0) (he : con.eff = none := by rfl) (hr : con.frs = .keep := by rfl) : Has P f con :=
  ⟨by simp only [Sound, he, hr]; exact soundV_of_awp hC hmix hf hb h, enters_ok hf hn (by simp [hb])⟩

theorem has_ofE {P : Program} {C : FuncId → Option Con} (hC : CtxOK P C) (hmix : P.follows .mixedOrders = true) {f : FuncId} {fn : Func} {c : Code} (hf : P.funcs[f]? = some fn) (hb : fn.body = some c)
    (hn : (fn.name == "runtime.NumGoroutine") = false) {con : Con} {e : Eff con.α}
    (h : ∀ x, con.ok x → (con.enc x).length ≤ fn.ntmps ∧ awp P C fn.ntmps (e.pre x).length c (fun en tm st nx => match en with
      | .exit _ => False
      | _ => (resR P tm fn.results.toList []).go st fun r st' => r = con.res x ∧ postB 0 (e.post x) st') (startT (con.enc x)) (startS (e.pre x)) (e.pre x).length) (he : con.eff = some e := by rfl) : Has P f con :=
  ⟨by simp only [Sound, he]; exact soundE_of_awp hC hmix hf hb h, enters_ok hf hn (by simp [hb])⟩

/-- What is asked at a function's end. -/
def endV (P : Program) (fn : Func) (r : V) (e : AX) (tm : TM) (st : ST) (nx : Nat) : Prop := match e with
  | .exit _ => False
  | _ => (resR P tm fn.results.toList []).go st fun r' _ => r' = r
def endE (P : Program) (fn : Func) (r : V) (ps : List Bx) (e : AX) (tm : TM) (st : ST) (nx : Nat) : Prop := match e with
  | .exit _ => False
  | _ => (resR P tm fn.results.toList []).go st fun r' st' => r' = r ∧ postB 0 ps st'

/-- A function by its body: to be followed where it is called. -/
def cRun (P : Program) (C : FuncId → Option Con) (fn : Func) (c : Code) : Con := { α := List V × V, enc := Prod.fst, ok := fun x => x.1.length ≤ fn.ntmps ∧ awp P C fn.ntmps 0 c (endV P fn x.2) (startT x.1) [] 0, res := Prod.snd }
theorem has_run {P : Program} {C : FuncId → Option Con} (hC : CtxOK P C) (hmix : P.follows .mixedOrders = true) {f : FuncId} {fn : Func} {c : Code} (hf : P.funcs[f]? = some fn) (hb : fn.body = some c)
    (hn : (fn.name == "runtime.NumGoroutine") = false) : Has P f (cRun P C fn c) := has_of hC hmix hf hb hn fun x hx => hx

structure RunE where
  args : List V
  pre : List Bx
  res : V
  post : List Bx
/-- The same, with boxes handed over. -/
def cRunE (P : Program) (C : FuncId → Option Con) (fn : Func) (c : Code) (own : List Bool) : Con := { α := RunE, enc := RunE.args, ok := fun x => x.args.length ≤ fn.ntmps ∧ awp P C fn.ntmps x.pre.length c (endE P fn x.res x.post) (startT x.args) (startS x.pre) x.pre.length, res := RunE.res, eff := some ⟨own, RunE.pre, RunE.post⟩ }
theorem has_runE {P : Program} {C : FuncId → Option Con} (hC : CtxOK P C) (hmix : P.follows .mixedOrders = true) {f : FuncId} {fn : Func} {c : Code} (hf : P.funcs[f]? = some fn) (hb : fn.body = some c)
    (hn : (fn.name == "runtime.NumGoroutine") = false) (own : List Bool) : Has P f (cRunE P C fn c own) := has_ofE (e := ⟨own, RunE.pre, RunE.post⟩) hC hmix hf hb hn fun x hx => hx

/-- The bool of a value. -/
def isT : V → Bool
  | .v (.bool b) => b
  | _ => false

theorem iEq {a b : Int} {k : IntKind} (h : a = b) : some (V.v (.int k a)) = some (V.v (.int k b)) := by rw [h]
theorem wrap_ok {n : Int} (h : -9223372036854775808 ≤ n) (h' : n ≤ 9223372036854775807) : n = IntKind.i64.wrap n := (IntWalk.i64_in n ⟨h, h'⟩).symm

theorem wrap_succ {k : Nat} (h : k < 9223372036854775807) : ((k + 1 : Nat) : Int) = IntKind.i64.wrap ((k : Int) + 1) := by
  rw [← wrap_ok (n := (k : Int) + 1) (by omega) (by omega)]
  rfl

/-- Neither a box nor a closure. -/
def plain : V → Bool
  | .box _ _ => false
  | .osl _ _ => false
  | .yld _ => false
  | .fn _ _ => false
  | .ag _ => false
  | _ => true

theorem ren_caps {caps : List V} (h : caps.all plain = true) (r : List (Nat × Nat)) : caps.mapM (renP r) = some caps := by
  induction caps with
  | nil => rfl
  | cons c caps ih =>
    simp only [List.all_cons, Bool.and_eq_true] at h
    have e : renP r c = some c := by
      have h1 := h.1
      clear ih h
      cases c <;> first | rfl | (simp [plain] at h1)
    simp [List.mapM_cons, e, ih h.2]

theorem ren_fn {g : FuncId} {caps : List V} (h : caps.all plain = true) (r : List (Nat × Nat)) : renV r (.fn g caps) = some (.fn g caps) := by
  simp [renV, ren_caps h]

theorem fzs_plain {k : List V → RM} : ∀ {l : List V}, l.all plain = true → fzs l k = k l := by
  have key : ∀ (l : List V) (k : List V → RM), l.all plain = true → mapRM (fz 4) l k = k l := by
    intro l
    induction l with
    | nil => intro k _; rfl
    | cons c l ih =>
      intro k h
      simp only [List.all_cons, Bool.and_eq_true] at h
      have e : ∀ k, fz 4 c k = k c := by
        intro k
        have h1 := h.1
        clear ih h
        cases c <;> first | rfl | (simp [plain] at h1)
      rw [mapRM, e, ih _ h.2]
  intro l h
  exact key l k h

/-- A call of a closure that is known by its contract alone. -/
theorem go_call {P : Program} {C : FuncId → Option Con} {id : Nat} {ρ : Operand → V} {f : Operand} {args : Array Operand} {ts : Array TypeId} {st : ST} {K : V → ST → Prop} {g : FuncId} {caps avs : List V} {c : Con} {y : c.α}
    (hf : ρ f = .fn g caps) (hc : C g = some c) (hce : c.eff = none) (hp : caps.all plain = true) (ha : args.toList.map ρ = avs) (hap : avs.all plain = true) (he : c.enc y = avs ++ caps) (hok : c.ok y)
    (hk : (RM.retF (c.res y)).go st K) (hcf : c.frs = .keep := by rfl) : (opR P C id ρ (.call { callee := .value f, args := args, argTypes := ts })).go st K := by
  simp only [opR, hf, hc, hce, hcf, ha]
  rw [fzs_plain (by rw [List.all_append, hap, hp]; rfl)]
  exact ⟨y, ⟨levs_eq he.symm, hok⟩, hk⟩
end Go.Ev
/- Slices of records; a condition for all elements. -/
set_option linter.unusedVariables false
set_option linter.unusedSimpArgs false
namespace Go.Ev

/-- Numbers of 64 bits. -/
abbrev wr (n : Int) : Int := IntKind.i64.wrap n

/-- The cells of a slice of records. -/
def recs {α : Type} (enc : α → List V) (l : List α) : List V := l.flatMap enc

theorem recs_length {α : Type} {enc : α → List V} {s : Nat} (h : ∀ a, (enc a).length = s) (l : List α) : (recs enc l).length = l.length * s := by
  induction l with
  | nil => simp [recs]
  | cons a l ih => simp only [recs, List.flatMap_cons, List.length_append, h, List.length_cons] at ih ⊢; rw [ih, Nat.add_mul]; omega

theorem rlen {α : Type} {enc : α → List V} {s : Nat} (h : ∀ a, (enc a).length = s) (l : List α) : l.length * s = (recs enc l).length := (recs_length h l).symm
theorem recs_drop {α : Type} {enc : α → List V} {s : Nat} (h : ∀ a, (enc a).length = s) (l : List α) (k : Nat) : (recs enc l).drop (k * s) = recs enc (l.drop k) := by
  induction l generalizing k with
  | nil => simp [recs]
  | cons a l ih =>
    cases k with
    | zero => simp
    | succ k =>
      have e : (k + 1) * s = (enc a).length + k * s := by rw [h, Nat.add_mul]; omega
      rw [show recs enc (a :: l) = enc a ++ recs enc l from rfl, e, ← List.drop_drop, List.drop_left, ih]
      rfl

theorem recs_get {α : Type} {enc : α → List V} {s : Nat} (h : ∀ a, (enc a).length = s) (l : List α) (k : Nat) (hk : k < l.length) : ((recs enc l).drop (k * s)).take s = enc l[k] := by
  rw [recs_drop h, List.drop_eq_getElem_cons hk]
  rw [show recs enc (l[k] :: l.drop (k + 1)) = enc l[k] ++ recs enc (l.drop (k + 1)) from rfl, ← h l[k], List.take_left]

theorem recs_pre {α : Type} {enc : α → List V} {s : Nat} (h : ∀ a, (enc a).length = s) {l : List α} {k : Nat} (hk : k < l.length) (hs : 0 < s) :
    0 ≤ (k : Int) ∧ (k : Int) < (l.length : Int) ∧ l.length * s = (recs enc l).length ∧ 0 < s := by
  rw [recs_length h]; omega

theorem recs_load {α : Type} {enc : α → List V} {s : Nat} (h : ∀ a, (enc a).length = s) {l : List α} {k : Nat} (hk : k < l.length) : 0 + s ≤ ((recs enc l).drop (k * s)).length := by
  rw [recs_drop h, recs_length h, List.length_drop]
  have : 1 * s ≤ (l.length - k) * s := Nat.mul_le_mul_right s (by omega)
  omega

theorem all_false {α : Type} {l : List α} {p : α → Bool} {k : Nat} (h : k < l.length) (hp : p l[k] = false) : l.all p = false := by
  cases e : l.all p with
  | false => rfl
  | true => rw [List.all_eq_true] at e; rw [e l[k] (by simp)] at hp; cases hp

structure Every (α : Type) where
  l : List α
  g : FuncId
  caps : List V
  p : α → Bool
def cEvery {α : Type} (enc : α → List V) (C : FuncId → Option Con) : Con := { α := Every α, enc := fun x => [.sl (recs enc x.l) x.l.length, .fn x.g x.caps], ok := fun x => x.l.length ≤ 140737488355328 ∧ x.caps.all plain = true ∧ ∃ c, C x.g = some c ∧ c.eff = none ∧ ∀ e ∈ x.l, ∃ y, c.enc y = .agg (enc e) :: x.caps ∧ c.ok y ∧ c.res y = (V.v (.bool (x.p e))), res := fun x => (V.v (.bool (x.l.all x.p))) }

theorem foldl_take {α β : Type} (f : β → α → β) (b : β) (l : List α) (k : Nat) (h : k < l.length) : (l.take (k + 1)).foldl f b = f ((l.take k).foldl f b) l[k] := by
  rw [List.take_succ_eq_append_getElem h, List.foldl_append]
  rfl


/-- A part of a record. -/
theorem recs_sub {α : Type} {enc : α → List V} {s : Nat} (h : ∀ a, (enc a).length = s) (l : List α) (k o n : Nat) (hk : k < l.length) (hn : o + n ≤ s) :
    (((recs enc l).drop (k * s)).drop o).take n = ((enc l[k]).drop o).take n := by
  rw [← recs_get h l k hk, List.drop_take, List.take_take, Nat.min_eq_left (by omega)]
theorem recs_sub_len {α : Type} {enc : α → List V} {s : Nat} (h : ∀ a, (enc a).length = s) {l : List α} {k o n : Nat} (hk : k < l.length) (hn : o + n ≤ s) :
    0 + n ≤ (((recs enc l).drop (k * s)).drop o).length := by
  have := recs_load (s := s) h hk
  rw [List.length_drop]; omega
theorem recs_set {α : Type} {enc : α → List V} {s : Nat} (h : ∀ a, (enc a).length = s) (l : List α) (k : Nat) (x : α) (hk : k < l.length) :
    (recs enc l).take (k * s) ++ enc x ++ (recs enc l).drop (k * s + s) = recs enc (l.set k x) := by
  have e1 : (recs enc l).take (k * s) = recs enc (l.take k) := by
    have : recs enc l = recs enc (l.take k) ++ recs enc (l.drop k) := by
      simp only [recs, ← List.flatMap_append, List.take_append_drop]
    rw [this, ← show (recs enc (l.take k)).length = k * s by rw [recs_length h, List.length_take, Nat.min_eq_left (by omega)], List.take_left]
  have e2 : k * s + s = (k + 1) * s := by rw [Nat.add_mul]; omega
  rw [e1, e2, recs_drop h, List.set_eq_take_append_cons_drop, if_pos hk]
  simp [recs, List.flatMap_append]
theorem recs_replicate {α : Type} {enc : α → List V} (x : α) (n : Nat) : (List.replicate n (enc x)).flatten = recs enc (List.replicate n x) := by
  induction n with
  | zero => rfl
  | succ n ih => simp [List.replicate_succ, recs] at ih ⊢; exact ih

theorem recs_cell {α : Type} {enc : α → List V} {s : Nat} (h : ∀ a, (enc a).length = s) (l : List α) (k o : Nat) (hk : k < l.length) (ho : o < s) :
    (((((recs enc l).drop (k * s)).drop o)[0]?).getD .top) = (((enc l[k])[o]?).getD .top) := by
  have e := recs_sub h l k o 1 hk (by omega)
  have e1 : ((((recs enc l).drop (k * s)).drop o).take 1)[0]? = ((((enc l[k]).drop o)).take 1)[0]? := by rw [e]
  rw [List.getElem?_take, List.getElem?_take, if_pos (by decide), if_pos (by decide)] at e1
  rw [e1, List.getElem?_drop, Nat.add_zero]

theorem go_cell {α : Type} {enc : α → List V} {s : Nat} (h : ∀ a, (enc a).length = s) {l : List α} {k o : Nat} {v : V} (hk : k < l.length) (ho : o < s) (hv : (((enc l[k])[o]?).getD .top) = v) {d : Decidable (0 < (((recs enc l).drop (k * s)).drop o).length)} {K : V → ST → Prop} {st : ST}
    (hn : (RM.retF v).go st K) : (@RM.dec (0 < (((recs enc l).drop (k * s)).drop o).length) (RM.retF (((((recs enc l).drop (k * s)).drop o)[0]?).getD .top)) d).go st K := by
  refine ⟨?_, ?_⟩
  · have := recs_sub_len (s := s) (o := o) (n := 1) h hk (by omega); omega
  · rw [recs_cell h l k o hk ho, hv]; exact hn
theorem goT_cell {α : Type} {enc : α → List V} {s : Nat} (h : ∀ a, (enc a).length = s) {l : List α} {k o : Nat} {v : V} (hk : k < l.length) (ho : o < s) (hv : (((enc l[k])[o]?).getD .top) = v) {d : Decidable (0 < (((recs enc l).drop (k * s)).drop o).length)} {K : V → ST → List Nat → List Nat → Prop} {st : ST} {rs ws : List Nat}
    (hn : (RM.retF v).goT st rs ws K) : (@RM.dec (0 < (((recs enc l).drop (k * s)).drop o).length) (RM.retF (((((recs enc l).drop (k * s)).drop o)[0]?).getD .top)) d).goT st rs ws K := by
  refine ⟨?_, ?_⟩
  · have := recs_sub_len (s := s) (o := o) (n := 1) h hk (by omega); omega
  · rw [recs_cell h l k o hk ho, hv]; exact hn

theorem goT_cell2 {α : Type} {enc : α → List V} {s : Nat} (h : ∀ a, (enc a).length = s) {l : List α} {k o o2 : Nat} {v : V} (hk : k < l.length) (ho : o + o2 < s) (hv : (((enc l[k])[o + o2]?).getD .top) = v) {d : Decidable (0 < ((((recs enc l).drop (k * s)).drop o).drop o2).length)} {K : V → ST → List Nat → List Nat → Prop} {st : ST} {rs ws : List Nat}
    (hn : (RM.retF v).goT st rs ws K) : (@RM.dec (0 < ((((recs enc l).drop (k * s)).drop o).drop o2).length) (RM.retF ((((((recs enc l).drop (k * s)).drop o).drop o2)[0]?).getD .top)) d).goT st rs ws K := by
  refine ⟨?_, ?_⟩
  · have := recs_sub_len (s := s) (o := o + o2) (n := 1) h hk (by omega); rw [List.drop_drop]; omega
  · rw [List.drop_drop, recs_cell h l k (o + o2) hk ho, hv]; exact hn
theorem go_cell2 {α : Type} {enc : α → List V} {s : Nat} (h : ∀ a, (enc a).length = s) {l : List α} {k o o2 : Nat} {v : V} (hk : k < l.length) (ho : o + o2 < s) (hv : (((enc l[k])[o + o2]?).getD .top) = v) {d : Decidable (0 < ((((recs enc l).drop (k * s)).drop o).drop o2).length)} {K : V → ST → Prop} {st : ST}
    (hn : (RM.retF v).go st K) : (@RM.dec (0 < ((((recs enc l).drop (k * s)).drop o).drop o2).length) (RM.retF ((((((recs enc l).drop (k * s)).drop o).drop o2)[0]?).getD .top)) d).go st K := by
  refine ⟨?_, ?_⟩
  · have := recs_sub_len (s := s) (o := o + o2) (n := 1) h hk (by omega); rw [List.drop_drop]; omega
  · rw [List.drop_drop, recs_cell h l k (o + o2) hk ho, hv]; exact hn
end Go.Ev
/- Steps of the evaluator, one at a time: what follows is not looked into. -/
set_option linter.unusedVariables false
set_option linter.unusedSimpArgs false
namespace Go.Ev

section
variable {P : Program} {C : FuncId → Option Con} {sz pins nx id : Nat} {tm : TM} {st : ST}

theorem go_ret {K : V → ST → Prop} {v : V} (h : K v st) : (RM.ret v).go st K := h
theorem go_req {K : V → ST → Prop} {p : Prop} {d : Decidable p} {k : RM} (hp : p) (h : k.go st K) : (@RM.dec p k d).go st K := ⟨hp, h⟩
theorem go_reqP {K : V → ST → Prop} {p : Prop} {k : RM} (hp : p) (h : k.go st K) : (RM.req p k).go st K := ⟨hp, h⟩
theorem go_get {K : V → ST → Prop} {b : Nat} {k : Bx → RM} {x : Bx} (hx : look st b = some x) (h : (k x).go st K) : (RM.get b k).go st K := by
  simp only [RM.go, hx]; exact h
theorem go_put {K : V → ST → Prop} {b : Nat} {x : Bx} {k : RM} (h : k.go ((b, x) :: st) K) : (RM.put b x k).go st K := h
theorem go_exi {K : V → ST → Prop} {α : Type} {p : α → Prop} {k : α → RM} (x : α) (hp : p x) (h : (k x).go st K) : (RM.exi α p k).go st K := ⟨x, hp, h⟩

theorem ops_nil {all : List Oper} {K : TM → ST → Prop} (h : K tm st) : evOps P C sz all [] id tm st K := h
theorem ops_cons {all : List Oper} {o : Oper} {os : List Oper} {K : TM → ST → Prop} (hd : okDst sz o.dst = true) (hg : o.guard = none)
    (h : (opR P C id (ev tm) o.op).go st fun v st' => evOps P C sz all os (id + 1) (putT tm o.dst v) st' K) : evOps P C sz all (o :: os) id tm st K := by
  unfold evOps
  simp only [hd, hg]
  exact h
theorem ops_take {all : List Oper} {o : Oper} {os : List Oper} {K : TM → ST → Prop} {j d : Nat} {want : Bool} (hd : okDst sz o.dst = true) (hg : o.guard = some (j, want)) (hj : (all[j]?).bind (·.dst) = some d) (hl : (look tm d).getD .top = .v (.bool want))
    (h : (opR P C id (ev tm) o.op).go st fun v st' => evOps P C sz all os (id + 1) (putT tm o.dst v) st' K) : evOps P C sz all (o :: os) id tm st K := by
  unfold evOps
  simp only [hd, hg, hj, hl]
  cases want with
  | true => exact h
  | false => exact h
theorem ops_skip {all : List Oper} {o : Oper} {os : List Oper} {K : TM → ST → Prop} {j d : Nat} {want : Bool} (hd : okDst sz o.dst = true) (hg : o.guard = some (j, want)) (hj : (all[j]?).bind (·.dst) = some d) (hl : (look tm d).getD .top = .v (.bool !want))
    (h : evOps P C sz all os (id + 1) (putT tm o.dst vU) st K) : evOps P C sz all (o :: os) id tm st K := by
  unfold evOps
  simp only [hd, hg, hj, hl]
  cases want with
  | true => exact h
  | false => exact h
theorem ops_skipU {all : List Oper} {o : Oper} {os : List Oper} {K : TM → ST → Prop} {j d : Nat} {want : Bool} {arr : Array Value} (hd : okDst sz o.dst = true) (hg : o.guard = some (j, want)) (hj : (all[j]?).bind (·.dst) = some d) (hl : (look tm d).getD .top = .v (.tuple arr))
    (h : evOps P C sz all os (id + 1) (putT tm o.dst vU) st K) : evOps P C sz all (o :: os) id tm st K := by
  unfold evOps
  simp only [hd, hg, hj, hl]
  exact h
/-- An open test. -/
theorem ops_test {all : List Oper} {o : Oper} {os : List Oper} {K : TM → ST → Prop} {j d : Nat} {want b : Bool} (hd : okDst sz o.dst = true) (hg : o.guard = some (j, want)) (hj : (all[j]?).bind (·.dst) = some d) (hl : (look tm d).getD .top = .v (.bool b))
    (h1 : b = want → (opR P C id (ev tm) o.op).go st fun v st' => evOps P C sz all os (id + 1) (putT tm o.dst v) st' K) (h2 : b = (!want) → evOps P C sz all os (id + 1) (putT tm o.dst vU) st K) : evOps P C sz all (o :: os) id tm st K := by
  unfold evOps
  simp only [hd, hg, hj, hl]
  cases want with
  | true => exact br_intro h1 h2
  | false => exact br_intro h2 h1

def seqK (P : Program) (C : FuncId → Option Con) (sz pins : Nat) (b : Code) (Q : AX → TM → ST → Nat → Prop) (e : AX) (tm : TM) (st : ST) (nx : Nat) : Prop := match e with
  | .normal => awp P C sz pins b Q tm st nx
  | e => Q e tm st nx
def blockK (id : Nat) (Q : AX → TM → ST → Nat → Prop) (e : AX) (tm : TM) (st : ST) (nx : Nat) : Prop := match e with
  | .exit j => match decide (j = id) with
    | true => Q .normal tm st nx
    | false => Q (.exit j) tm st nx
  | e => Q e tm st nx
def loopK (pins : Nat) {α : Type} (mk : α → LS) (μ : α → Nat) (x : α) (Q : AX → TM → ST → Nat → Prop) (e : AX) (tm : TM) (st : ST) (nx : Nat) : Prop := match e with
  | .normal => ∃ y r, Sub pins r (mk y).tm (mk y).st (mk y).nx tm st ∧ μ y < μ x
  | e => Q e tm st nx

variable {Q : AX → TM → ST → Nat → Prop} {a b c : Code}
theorem st_skip (h : Q .normal tm st nx) : awp P C sz pins .skip Q tm st nx := h
theorem st_region {i : Nat} {ops : Array Oper} {l : List Oper} {nx' : Nat} (hl : ops.toList = l) (hn : nx + ops.size = nx') (h : evOps P C sz l l nx tm st fun tm' st' => Q .normal tm' st' nx') : awp P C sz pins (.region i ops false) Q tm st nx := by
  subst hl hn
  exact h
theorem st_regionD {i : Nat} {ops : Array Oper} (ha : aheadB ops.toList = true) (h : evOpsD P C sz ops nx ops.toList 0 tm st [] fun tm' st' => Q .normal tm' st' (nx + ops.size)) : awp P C sz pins (.region i ops true) Q tm st nx := by
  simp only [awp, ha]
  exact h
theorem st_seq (h : awp P C sz pins a (seqK P C sz pins b Q) tm st nx) : awp P C sz pins (.seq a b) Q tm st nx := h
theorem st_cond {x : Operand} {p : Bool} (hc : ev tm x = .v (.bool p)) (h1 : p = true → awp P C sz pins a Q tm st nx) (h2 : p = false → awp P C sz pins b Q tm st nx) : awp P C sz pins (.cond x a b) Q tm st nx := by
  simp only [awp, hc]
  exact br_intro h1 h2
theorem st_condT {x : Operand} (hc : ev tm x = .v (.bool true)) (h1 : awp P C sz pins a Q tm st nx) : awp P C sz pins (.cond x a b) Q tm st nx := st_cond hc (fun _ => h1) (fun e => by cases e)
theorem st_condF {x : Operand} (hc : ev tm x = .v (.bool false)) (h1 : awp P C sz pins b Q tm st nx) : awp P C sz pins (.cond x a b) Q tm st nx := st_cond hc (fun e => by cases e) (fun _ => h1)
theorem st_block {i : Nat} (h : awp P C sz pins a (blockK i Q) tm st nx) : awp P C sz pins (.block i a) Q tm st nx := h
theorem st_exit {i : Nat} (h : Q (.exit i) tm st nx) : awp P C sz pins (.exit i) Q tm st nx := h
theorem st_ret (h : Q .ret tm st nx) : awp P C sz pins .ret Q tm st nx := h
theorem st_loop {α : Type} {mk : α → LS} {μ : α → Nat} (h0 : ∃ x r, Sub pins r (mk x).tm (mk x).st (mk x).nx tm st) (h : ∀ x, awp P C sz pins a (loopK pins mk μ x Q) (mk x).tm (mk x).st (mk x).nx) : awp P C sz pins (.loop a) Q tm st nx := ⟨α, mk, μ, h0, h⟩

theorem k_seq (h : awp P C sz pins b Q tm st nx) : seqK P C sz pins b Q .normal tm st nx := h
theorem k_seqX {i : Nat} (h : Q (.exit i) tm st nx) : seqK P C sz pins b Q (.exit i) tm st nx := h
theorem k_seqR (h : Q .ret tm st nx) : seqK P C sz pins b Q .ret tm st nx := h
theorem k_block {i : Nat} (h : Q .normal tm st nx) : blockK i Q .normal tm st nx := h
theorem k_blockX {i : Nat} (h : Q .normal tm st nx) : blockK i Q (.exit i) tm st nx := by simp only [blockK, decide_true]; exact h
theorem k_blockY {i j : Nat} (hj : decide (j = i) = false) (h : Q (.exit j) tm st nx) : blockK i Q (.exit j) tm st nx := by simp only [blockK, hj]; exact h
theorem k_blockR {i : Nat} (h : Q .ret tm st nx) : blockK i Q .ret tm st nx := h
theorem k_loop {α : Type} {mk : α → LS} {μ : α → Nat} {x : α} (y : α) (r : List (Nat × Nat)) (hs : Sub pins r (mk y).tm (mk y).st (mk y).nx tm st) (hl : μ y < μ x) : loopK pins mk μ x Q .normal tm st nx := ⟨y, r, hs, hl⟩
theorem k_loopX {α : Type} {mk : α → LS} {μ : α → Nat} {x : α} {i : Nat} (h : Q (.exit i) tm st nx) : loopK pins mk μ x Q (.exit i) tm st nx := h
theorem k_loopR {α : Type} {mk : α → LS} {μ : α → Nat} {x : α} (h : Q .ret tm st nx) : loopK pins mk μ x Q .ret tm st nx := h

/-! regions whose order is open -/
variable {rs ws : List Nat}
theorem goT_ret {K : V → ST → List Nat → List Nat → Prop} {v : V} (h : K v st rs ws) : (RM.ret v).goT st rs ws K := h
theorem goT_req {K : V → ST → List Nat → List Nat → Prop} {p : Prop} {d : Decidable p} {k : RM} (hp : p) (h : k.goT st rs ws K) : (@RM.dec p k d).goT st rs ws K := ⟨hp, h⟩
theorem goT_reqP {K : V → ST → List Nat → List Nat → Prop} {p : Prop} {k : RM} (hp : p) (h : k.goT st rs ws K) : (RM.req p k).goT st rs ws K := ⟨hp, h⟩
theorem goT_get {K : V → ST → List Nat → List Nat → Prop} {b : Nat} {k : Bx → RM} {x : Bx} (hx : look st b = some x) (h : (k x).goT st (b :: rs) ws K) : (RM.get b k).goT st rs ws K := by
  simp only [RM.goT, hx]; exact h
theorem goT_put {K : V → ST → List Nat → List Nat → Prop} {b : Nat} {x : Bx} {k : RM} (h : k.goT ((b, x) :: st) rs (b :: ws) K) : (RM.put b x k).goT st rs ws K := h
theorem goT_exi {K : V → ST → List Nat → List Nat → Prop} {α : Type} {p : α → Prop} {k : α → RM} (x : α) (hp : p x) (h : (k x).goT st rs ws K) : (RM.exi α p k).goT st rs ws K := ⟨x, hp, h⟩

def dK (P : Program) (C : FuncId → Option Con) (sz : Nat) (ops : Array Oper) (nx : Nat) (o : Oper) (os : List Oper) (i : Nat) (tm : TM) (prev : List (Nat × Oper × List Nat × List Nat)) (K : TM → ST → Prop) (v : V) (st : ST) (rs ws : List Nat) : Prop :=
  match indepB ops o rs ws prev with
  | false => False
  | true => evOpsD P C sz ops nx os (i + 1) (putT tm o.dst v) st ((i, o, rs, ws) :: prev) K

variable {ops : Array Oper} {o : Oper} {os : List Oper} {i : Nat} {prev : List (Nat × Oper × List Nat × List Nat)} {K : TM → ST → Prop}
theorem d_step {v : V} (hi : indepB ops o rs ws prev = true) (h : evOpsD P C sz ops nx os (i + 1) (putT tm o.dst v) st ((i, o, rs, ws) :: prev) K) : dK P C sz ops nx o os i tm prev K v st rs ws := by
  simp only [dK, hi]; exact h
theorem d_nil (h : K tm st) : evOpsD P C sz ops nx [] i tm st prev K := h
theorem d_cons (hd : okDst sz o.dst = true) (hg : o.guard = none) (h : (opR P C (nx + i) (ev tm) o.op).goT st [] [] (dK P C sz ops nx o os i tm prev K)) : evOpsD P C sz ops nx (o :: os) i tm st prev K := by
  unfold evOpsD
  simp only [hd, hg]
  exact h
theorem d_take {j d : Nat} {want : Bool} (hd : okDst sz o.dst = true) (hg : o.guard = some (j, want)) (hj : (ops.toList[j]?).bind (·.dst) = some d) (hl : (look tm d).getD .top = .v (.bool want))
    (h : (opR P C (nx + i) (ev tm) o.op).goT st [] [] (dK P C sz ops nx o os i tm prev K)) : evOpsD P C sz ops nx (o :: os) i tm st prev K := by
  unfold evOpsD
  simp only [hd, hg, hj, hl]
  cases want with
  | true => exact h
  | false => exact h
theorem d_skip {j d : Nat} {want : Bool} (hd : okDst sz o.dst = true) (hg : o.guard = some (j, want)) (hj : (ops.toList[j]?).bind (·.dst) = some d) (hl : (look tm d).getD .top = .v (.bool !want)) (hi : indepB ops o [] [] prev = true)
    (h : evOpsD P C sz ops nx os (i + 1) (putT tm o.dst vU) st ((i, o, [], []) :: prev) K) : evOpsD P C sz ops nx (o :: os) i tm st prev K := by
  unfold evOpsD
  simp only [hd, hg, hj, hl]
  cases want with
  | true => simp only [Bool.not_true, br, hi]; exact h
  | false => simp only [Bool.not_false, br, hi]; exact h
theorem d_skipU {j d : Nat} {want : Bool} {arr : Array Value} (hd : okDst sz o.dst = true) (hg : o.guard = some (j, want)) (hj : (ops.toList[j]?).bind (·.dst) = some d) (hl : (look tm d).getD .top = .v (.tuple arr)) (hi : indepB ops o [] [] prev = true)
    (h : evOpsD P C sz ops nx os (i + 1) (putT tm o.dst vU) st ((i, o, [], []) :: prev) K) : evOpsD P C sz ops nx (o :: os) i tm st prev K := by
  unfold evOpsD
  simp only [hd, hg, hj, hl, hi]
  exact h
theorem d_test {j d : Nat} {want b : Bool} (hd : okDst sz o.dst = true) (hg : o.guard = some (j, want)) (hj : (ops.toList[j]?).bind (·.dst) = some d) (hl : (look tm d).getD .top = .v (.bool b)) (hi : indepB ops o [] [] prev = true)
    (h1 : b = want → (opR P C (nx + i) (ev tm) o.op).goT st [] [] (dK P C sz ops nx o os i tm prev K)) (h2 : b = (!want) → evOpsD P C sz ops nx os (i + 1) (putT tm o.dst vU) st ((i, o, [], []) :: prev) K) : evOpsD P C sz ops nx (o :: os) i tm st prev K := by
  unfold evOpsD
  simp only [hd, hg, hj, hl]
  cases want with
  | true => exact br_intro h1 (fun e => by simp only [hi]; exact h2 e)
  | false => exact br_intro (fun e => by simp only [hi]; exact h2 e) h1
end
end Go.Ev
/- Functions over typed data, and runs that follow them. -/
set_option linter.unusedVariables false
set_option linter.unusedSimpArgs false
namespace Go.Ev
open Go.RowKit

/-- Do something with the goal, and go on. -/
theorem stp {p q : Prop} (h : q) (c : q → p) : p := c h

/-- Rounds of a loop, fewer than n. -/
def loopN {S E : Type} (step : S → Option (S ⊕ E)) : Nat → S → Option E
  | 0, _ => none
  | n + 1, s => match step s with
    | none => none
    | some (.inl s') => loopN step n s'
    | some (.inr e) => some e

theorem loopN_succ {S E : Type} {step : S → Option (S ⊕ E)} : ∀ {n : Nat} {s : S} {e : E}, loopN step n s = some e → loopN step (n + 1) s = some e
  | 0, _, _, h => by cases h
  | n + 1, s, e, h => by
    unfold loopN at h ⊢
    split at h
    · cases h
    · exact loopN_succ h
    · exact h
theorem loopN_le {S E : Type} {step : S → Option (S ⊕ E)} {n m : Nat} (hm : n ≤ m) {s : S} {e : E} (h : loopN step n s = some e) : loopN step m s = some e := by
  induction hm with
  | refl => exact h
  | step _ ih => exact loopN_succ ih

open Classical in
/-- A loop, as long as it needs. -/
noncomputable def loopC {S E : Type} (step : S → Option (S ⊕ E)) (s : S) : Option E :=
  if h : ∃ n e, loopN step n s = some e then some h.choose_spec.choose else none

theorem loopC_of {S E : Type} {step : S → Option (S ⊕ E)} {s : S} {n : Nat} {e : E} (h : loopN step n s = some e) : loopC step s = some e := by
  have hx : ∃ n e, loopN step n s = some e := ⟨n, e, h⟩
  unfold loopC
  rw [dif_pos hx]
  have h1 := loopN_le (Nat.le_max_left n hx.choose) h
  have h2 := loopN_le (Nat.le_max_right n hx.choose) hx.choose_spec.choose_spec
  rw [h1] at h2
  exact h2.symm
theorem loopC_ex {S E : Type} {step : S → Option (S ⊕ E)} {s : S} {e : E} (h : loopC step s = some e) : ∃ n, loopN step n s = some e := by
  unfold loopC at h
  split at h
  · next hx =>
    obtain rfl := Option.some.inj h
    exact ⟨_, hx.choose_spec.choose_spec⟩
  · cases h
theorem loopC_eq {S E : Type} (step : S → Option (S ⊕ E)) (s : S) : loopC step s = match step s with
    | none => none
    | some (.inl s') => loopC step s'
    | some (.inr e) => some e := by
  cases hs : step s with
  | none =>
    cases h : loopC step s with
    | none => rfl
    | some e => obtain ⟨n, hn⟩ := loopC_ex h; cases n with
      | zero => cases hn
      | succ n => simp [loopN, hs] at hn
  | some o =>
    cases o with
    | inr e => exact loopC_of (n := 1) (by simp [loopN, hs])
    | inl s' =>
      simp only
      cases h : loopC step s' with
      | some e => obtain ⟨n, hn⟩ := loopC_ex h; exact loopC_of (n := n + 1) (by simp [loopN, hs, hn])
      | none =>
        cases h2 : loopC step s with
        | none => rfl
        | some e =>
          obtain ⟨n, hn⟩ := loopC_ex h2
          cases n with
          | zero => cases hn
          | succ n => simp only [loopN, hs] at hn; rw [loopC_of hn] at h; cases h

/-- What a round does next, n rounds at most. -/
def nextF {S E R : Type} (step : S → Option (S ⊕ E)) (K : E → Option R) (n : Nat) : S ⊕ E → Option R
  | .inl s' => (loopN step n s').bind K
  | .inr e => K e

/-! what a function says -/
theorem e_bind {A B R : Type} {g : Option A} {K : A → Option B} {J : B → Option R} {r : R} (h : (g.bind K).bind J = some r) : ∃ y, g = some y ∧ (K y).bind J = some r := by
  cases g with
  | none => cases h
  | some y => exact ⟨y, rfl, h⟩
theorem e_bif {B R : Type} {b : Bool} {x y : Option B} {J : B → Option R} {r : R} (h : (bif b then x else y).bind J = some r) : (b = true ∧ x.bind J = some r) ∨ (b = false ∧ y.bind J = some r) := by
  cases b with
  | true => exact .inl ⟨rfl, h⟩
  | false => exact .inr ⟨rfl, h⟩
theorem e_assoc {A B R : Type} {g : Option A} {K : A → Option B} {J : B → Option R} {r : R} (h : (g.bind K).bind J = some r) : g.bind (fun a => (K a).bind J) = some r := by
  cases g with
  | none => cases h
  | some y => exact h

def endW (P : Program) (fn : Func) (r : V) (e : AX) (tm : TM) (st : ST) (nx : Nat) : Prop := match e with
  | .exit _ => False
  | _ => (resR P tm fn.results.toList []).go st fun r' _ => LeV r' r

theorem soundW_of_awp {P : Program} {C : FuncId → Option Con} (hC : CtxOK P C) (hmix : P.follows .mixedOrders = true) {f : FuncId} {fn : Func} {c : Code} (hf : P.funcs[f]? = some fn) (hb : fn.body = some c) {con : Con}
    (h : ∀ x, con.ok x → (con.enc x).length ≤ fn.ntmps ∧ awp P C fn.ntmps 0 c (fun e tm st nx => match e with
      | .exit _ => False
      | _ => (resR P tm fn.results.toList []).go st fun r _ => LeV r (con.res x)) (startT (con.enc x)) [] 0) : SoundV P f con := by
  intro x F w vs hF hv hok
  obtain ⟨hlen, hawp⟩ := h x hok
  generalize havs : con.enc x = avs at hlen hawp hv
  have hl := RCs_length hv
  refine callsIn_wide.1 (callsIn_of_wp (n := 0) hf hb trivial ?_)
  have hR : Rel (fun g => w.heap.size ≤ g) w F (fun _ => none) [] (fun b => 0 ≤ b) F (fun _ => none) fn.ntmps (startT avs) [] { tmps := vs.toArray ++ Array.replicate (fn.ntmps - vs.toArray.size) undef, defers := [] } w := by
    refine { htm := fun i => ?_, hsz := by simp; omega, hde := rfl, nst := ⟨_, NOK.nil⟩, hst := fun b x hx => by simp at hx, inj := fun b b' g c c' _ _ hm => (by cases hm), fresh := fun b _ => ⟨rfl, rfl⟩, pin := fun b y e => (by cases e), keep := Keeps.refl _ _, f0 := fun _ _ e => e, f1 := fun _ _ e => .inl e, f2 := hF, mlt := fun b g c hm => (by cases hm), below := Own.refl _ _, hb := fun _ e => e }
    have e : look (startT avs) i = avs[i]? := by
      unfold startT
      rw [List.range_eq_range', look_start avs 0 i]
      simp
    rw [e]
    cases hi : avs[i]? with
    | none => exact trivial
    | some c =>
      have hil : i < avs.length := (List.getElem?_eq_some_iff.1 hi).1
      have hx : vs[i]? = some (vs[i]'(by omega)) := List.getElem?_eq_getElem (by omega)
      have := ((RCs_iff.1 hv).2 i c _ hi hx).1
      simp only [Option.getD_some]
      have e2 : (vs.toArray ++ Array.replicate (fn.ntmps - vs.toArray.size) undef).getD i undef = vs[i]'(by omega) := by
        rw [Array.getD_eq_getD_getElem?, Array.getElem?_append_left (by simp; omega)]
        simp [hx]
      rw [e2]
      exact RV.of_RC this
  refine awp_sound (pins := 0) hC wide_wide hmix (fun b y e => by cases e) c _ _ F _ _ _ 0 _ w hR hawp ?_
  have fin : ∀ (a' : Act) (w' : World) (F' : FZ) (m' : MP) (tm' : TM) (st' : ST) (nx' : Nat), Rel (fun g => w.heap.size ≤ g) w F (fun _ => none) [] (fun b => nx' ≤ b) F' m' fn.ntmps tm' st' a' w' → (resR P tm' fn.results.toList []).go st' (fun r _ => LeV r (con.res x)) →
      a'.defers = [] ∧ ∃ v, (results fn a'.tmps).run P w' = .ok v w' ∧ ∃ v_1 F', Ending.returned v = Ending.returned v_1 ∧ Below w.heap.size w w' ∧ (∀ g j, F g j → F' g j) ∧ (∀ g j, F' g j → F g j ∨ w.heap.size ≤ g) ∧ (∀ g j, F' g j → g < w'.heap.size) ∧ RC F' w'.heap (con.res x) v_1 := by
    intro a' w' F' m' tm' st' nx' hR' hg
    obtain ⟨F1, st1, vs1, c1, r1, r2, r3, r4⟩ := resR_sound fn.results.toList [] [] F' st' hR' hg rfl (by simp)
    exact ⟨hR'.hde, _, results_eq fn a'.tmps w' vs1 r2, _, F1, rfl, r1.below.below, r1.f0, r1.f1, r1.f2, r4.le _ _ _ r3⟩
  intro e a' w' hpo
  cases e with
  | normal => obtain ⟨F', m', tm', st', nx', hR', hg⟩ := hpo; exact fin a' w' F' m' tm' st' nx' hR' hg
  | ret => obtain ⟨F', m', tm', st', nx', hR', hg⟩ := hpo; exact fin a' w' F' m' tm' st' nx' hR' hg
  | exit id => obtain ⟨F', m', tm', st', nx', hR', hg⟩ := hpo; exact hg.elim
  | goto l => exact hpo.elim
  | panic c => exact hpo.elim
  | outgrown => exact hpo.elim

/-- What is asked of a list that a function makes. -/
def endR (fn : Func) (ty : TypeId) (size : Nat) (r : V) (e : AX) (tm : TM) (st : ST) (nx : Nat) : Prop := match e with
  | .exit _ => False
  | _ => match fn.results.toList with
    | [.tmp t] => (∃ b n cs, (look tm t).getD .top = .osl b n ∧ look st b = some (.row ty size cs 0) ∧ n * size = cs.length ∧ r = .sl cs n) ∨ ((look tm t).getD .top = .v (.slice none 0 0) ∧ r = .sl [] 0)
    | _ => False

theorem fresh_end {O : Nat → Prop} {w0 : World} {F0 : FZ} {M0 : MP} {D : List Deferred} {U : Nat → Prop} {F : FZ} {m : MP} {sz : Nat} {tm : TM} {st : ST} {a : Act} {w : World} (h : Rel O w0 F0 M0 D U F m sz tm st a w) {k : Nat} (hO : ∀ g, O g → k ≤ g)
    {c : V} {x : Value} (hx : RV m F w.heap c x) {ty : TypeId} {size n : Nat} {cs : List V}
    (he : (∃ b n' cs', c = .osl b n' ∧ look st b = some (.row ty size cs' 0) ∧ n' * size = cs'.length ∧ V.sl cs n = .sl cs' n') ∨ (c = .v (.slice none 0 0) ∧ V.sl cs n = .sl [] 0)) : FreshV F k w.heap ty size cs n x := by
  rcases he with ⟨b, n', cs', rfl, hl, hn, hr⟩ | ⟨rfl, hr⟩
  · cases hr
    rcases hx with ⟨g, cap, hm, hnc, rfl⟩ | ⟨rfl, rfl⟩
    · obtain ⟨g', cap', cur, h1, h2, h3, h4, h5, h6, h7, h8, h9, h10⟩ := RBx.real (h.hst b _ hl) hm
      rw [hm] at h1; cases h1
      exact .inl ⟨g, cap, cur, hO _ h2, rfl, hnc, h4, h.mlt _ _ _ hm, h3, h5, h6, h7, fun j hj => absurd (h8 j hj) (Nat.not_lt_zero _)⟩
    · exact .inr ⟨rfl, rfl, List.eq_nil_of_length_eq_zero (by rw [← hn]; exact Nat.zero_mul _)⟩
  · cases hr
    have hx : x = .slice none 0 0 := hx
    exact .inr ⟨hx, rfl, rfl⟩

theorem soundF_of_awp {P : Program} {C : FuncId → Option Con} (hC : CtxOK P C) (hmix : P.follows .mixedOrders = true) {f : FuncId} {fn : Func} {c : Code} (hf : P.funcs[f]? = some fn) (hb : fn.body = some c) {con : Con} {ty : TypeId} {size : Nat}
    (h : ∀ x, con.ok x → (con.enc x).length ≤ fn.ntmps ∧ awp P C fn.ntmps 0 c (endR fn ty size (con.res x)) (startT (con.enc x)) [] 0) : SoundF P f con ty size := by
  intro x F w vs cs n hF hv hok hres
  obtain ⟨hlen, hawp⟩ := h x hok
  rw [hres] at hawp
  generalize havs : con.enc x = avs at hlen hawp hv
  have hl := RCs_length hv
  refine callsIn_wide.1 (callsIn_of_wp (n := 0) hf hb trivial ?_)
  have hR : Rel (fun g => w.heap.size ≤ g) w F (fun _ => none) [] (fun b => 0 ≤ b) F (fun _ => none) fn.ntmps (startT avs) [] { tmps := vs.toArray ++ Array.replicate (fn.ntmps - vs.toArray.size) undef, defers := [] } w := by
    refine { htm := fun i => ?_, hsz := by simp; omega, hde := rfl, nst := ⟨_, NOK.nil⟩, hst := fun b x hx => by simp at hx, inj := fun b b' g c c' _ _ hm => (by cases hm), fresh := fun b _ => ⟨rfl, rfl⟩, pin := fun b y e => (by cases e), keep := Keeps.refl _ _, f0 := fun _ _ e => e, f1 := fun _ _ e => .inl e, f2 := hF, mlt := fun b g c hm => (by cases hm), below := Own.refl _ _, hb := fun _ e => e }
    have e : look (startT avs) i = avs[i]? := by
      unfold startT
      rw [List.range_eq_range', look_start avs 0 i]
      simp
    rw [e]
    cases hi : avs[i]? with
    | none => exact trivial
    | some c =>
      have hil : i < avs.length := (List.getElem?_eq_some_iff.1 hi).1
      have hx : vs[i]? = some (vs[i]'(by omega)) := List.getElem?_eq_getElem (by omega)
      have := ((RCs_iff.1 hv).2 i c _ hi hx).1
      simp only [Option.getD_some]
      have e2 : (vs.toArray ++ Array.replicate (fn.ntmps - vs.toArray.size) undef).getD i undef = vs[i]'(by omega) := by
        rw [Array.getD_eq_getD_getElem?, Array.getElem?_append_left (by simp; omega)]
        simp [hx]
      rw [e2]
      exact RV.of_RC this
  refine awp_sound (pins := 0) hC wide_wide hmix (fun b y e => by cases e) c _ _ F _ _ _ 0 _ w hR hawp ?_
  have fin : ∀ (a' : Act) (w' : World) (F' : FZ) (m' : MP) (tm' : TM) (st' : ST) (nx' : Nat), Rel (fun g => w.heap.size ≤ g) w F (fun _ => none) [] (fun b => nx' ≤ b) F' m' fn.ntmps tm' st' a' w' →
      (match fn.results.toList with
        | [.tmp t] => (∃ b n' cs', (look tm' t).getD .top = .osl b n' ∧ look st' b = some (.row ty size cs' 0) ∧ n' * size = cs'.length ∧ V.sl cs n = .sl cs' n') ∨ ((look tm' t).getD .top = .v (.slice none 0 0) ∧ V.sl cs n = .sl [] 0)
        | _ => False) →
      a'.defers = [] ∧ ∃ v, (results fn a'.tmps).run P w' = .ok v w' ∧ ∃ v_1 F', Ending.returned v = Ending.returned v_1 ∧ Below w.heap.size w w' ∧ (∀ g j, F g j → F' g j) ∧ (∀ g j, F' g j → F g j ∨ w.heap.size ≤ g) ∧ (∀ g j, F' g j → g < w'.heap.size) ∧ FreshV F' w.heap.size w'.heap ty size cs n v_1 := by
    intro a' w' F' m' tm' st' nx' hR' hg
    split at hg
    · next t hres =>
      have hr : fn.results = #[.tmp t] := by cases hh : fn.results; rw [hh] at hres; simp at hres; simp [hres]
      refine ⟨hR'.hde, a'.tmps.getD t undef, by simp [results, hr, Array.mapM_eq_mapM_toList], _, F', rfl, hR'.below.below, hR'.f0, hR'.f1, hR'.f2, ?_⟩
      exact fresh_end hR' (fun g e => e) (hR'.htm t) hg
    · exact hg.elim
  intro e a' w' hpo
  cases e with
  | normal => obtain ⟨F', m', tm', st', nx', hR', hg⟩ := hpo; exact fin a' w' F' m' tm' st' nx' hR' hg
  | ret => obtain ⟨F', m', tm', st', nx', hR', hg⟩ := hpo; exact fin a' w' F' m' tm' st' nx' hR' hg
  | exit id => obtain ⟨F', m', tm', st', nx', hR', hg⟩ := hpo; exact hg.elim
  | goto l => exact hpo.elim
  | panic c => exact hpo.elim
  | outgrown => exact hpo.elim

/-- A contract by a function that makes a list. -/
def conR {α β : Type} (F : α → Option β) (enc : α → List V) (er : β → V) (ty : TypeId) (size : Nat) : Con := { α := α × β, enc := fun x => enc x.1, ok := fun x => F x.1 = some x.2, res := fun x => er x.2, frs := .fresh ty size }

/-- The same, where the arguments are lent. -/
def conRL {α β : Type} (F : α → Option β) (enc : α → List V) (er : β → V) (ty : TypeId) (size : Nat) : Con := { α := α × β, enc := fun x => enc x.1, ok := fun x => F x.1 = some x.2, res := fun x => er x.2, frs := .lendF ty size }
def conL' {α β : Type} (F : α → Option β) (enc : α → List V) (er : β → V) : Con := { α := α × β, enc := fun x => enc x.1, ok := fun x => F x.1 = some x.2, res := fun x => er x.2, frs := .lend }

/-- Values that lead nowhere. -/
def isFl : V → Bool
  | .v _ => true
  | _ => false
theorem flat_cells {F : FZ} {H : Array Obj} {one : Bool} {F2 : FZ} {H2 : Array Obj} : ∀ {cs : List V} {xs : List Value}, cs.all isFl = true → RCs F H one cs xs → RCs F2 H2 one cs xs
  | [], [], _, _ => by simp [RCs]
  | c :: cs, x :: xs, h, hr => by
    simp only [List.all_cons, Bool.and_eq_true] at h
    simp only [RCs] at hr ⊢
    refine ⟨⟨?_, hr.1.2⟩, flat_cells h.2 hr.2⟩
    cases c with
    | v y => exact hr.1.1
    | _ => exact absurd h.1 (by simp [isFl])
  | [], _ :: _, _, hr => by simp [RCs] at hr
  | _ :: _, [], _, hr => by simp [RCs] at hr
theorem flat_recs {α : Type} {enc : α → List V} (h : ∀ a, (enc a).all isFl = true) (l : List α) : (recs enc l).all isFl = true := by
  induction l with
  | nil => rfl
  | cons a l ih => rw [show recs enc (a :: l) = enc a ++ recs enc l from rfl, List.all_append, h, ih]; rfl
theorem has_lendF {P : Program} {f : FuncId} {α β : Type} {F : α → Option β} {enc : α → List V} {er : β → V} {ty : TypeId} {size : Nat} (h : Has P f (conR F enc er ty size)) (hf : ∀ r cs n, er r = .sl cs n → cs.all isFl = true) : Has P f (conRL F enc er ty size) :=
  ⟨⟨h.1, fun x cs n F H xs F2 H2 hr hc => flat_cells (hf _ _ _ hr) hc⟩, h.2⟩

/-- A contract by a function. -/
def conF {α β : Type} (F : α → Option β) (enc : α → List V) (er : β → V) : Con := { α := α × β, enc := fun x => enc x.1, ok := fun x => F x.1 = some x.2, res := fun x => er x.2 }

/-- The same, where something more is asked. -/
def conK {α β : Type} (F : α → Option β) (enc : α → List V) (ok : α → Prop) (er : β → V) : Con := { α := α × β, enc := fun x => enc x.1, ok := fun x => F x.1 = some x.2 ∧ ok x.1, res := fun x => er x.2 }

/-- A closure that does what p says. -/
def Callable (C : FuncId → Option Con) (g : FuncId) (caps : List V) {A B : Type} (enc : A → List V) (er : B → V) (p : A → Option B) : Prop :=
  caps.all plain = true ∧ ∃ c, C g = some c ∧ c.eff = none ∧ c.frs = .keep ∧ ∀ a y, p a = some y → ∃ z : c.α, c.enc z = enc a ++ caps ∧ c.ok z ∧ c.res z = er y
theorem callable_conF {C : FuncId → Option Con} {g : FuncId} {caps : List V} {A B X : Type} {enc : A → List V} {er : B → V} {F : X → Option B} {e0 : X → List V} {x : A → X} (h0 : caps.all plain = true) (h1 : C g = some (conF F e0 er)) (h2 : ∀ a, e0 (x a) = enc a ++ caps) : Callable C g caps enc er (fun a => F (x a)) :=
  ⟨h0, _, h1, rfl, rfl, fun a y h => ⟨(x a, y), h2 a, h, rfl⟩⟩

theorem callable_conK {C : FuncId → Option Con} {g : FuncId} {caps : List V} {A B X : Type} {enc : A → List V} {er : B → V} {F : X → Option B} {e0 : X → List V} {ok : X → Prop} {x : A → X} (h0 : caps.all plain = true) (h1 : C g = some (conK F e0 ok er)) (h2 : ∀ a, e0 (x a) = enc a ++ caps) (h3 : ∀ a, ok (x a)) : Callable C g caps enc er (fun a => F (x a)) :=
  ⟨h0, _, h1, rfl, rfl, fun a y h => ⟨(x a, y), h2 a, ⟨h, h3 a⟩, rfl⟩⟩

/-- Contracts at hand, upon others. -/
def ext (C : FuncId → Option Con) : List (FuncId × Con) → FuncId → Option Con
  | [], f => C f
  | (g, c) :: l, f => match Nat.beq g f with
    | true => some c
    | false => ext C l f
theorem ext_nil {P : Program} {C : FuncId → Option Con} (h : CtxOK P C) : CtxOK P (ext C []) := h
theorem ext_cons {P : Program} {C : FuncId → Option Con} {g : FuncId} {c : Con} {l : List (FuncId × Con)} (h : Has P g c) (k : CtxOK P (ext C l)) : CtxOK P (ext C ((g, c) :: l)) := by
  intro f c' hf
  simp only [ext] at hf
  split at hf
  · next hb => have := Nat.eq_of_beq_eq_true hb; subst this; cases hf; exact h
  · exact k f c' hf

section
variable {P : Program} {C : FuncId → Option Con} {sz pins nx id : Nat} {tm : TM} {st : ST} {rs ws : List Nat}

theorem hasK (hC : CtxOK P C) (hmix : P.follows .mixedOrders = true) {f : FuncId} {fn : Func} {c : Code} (hf : P.funcs[f]? = some fn) (hb : fn.body = some c)
    (hn : (fn.name == "runtime.NumGoroutine") = false) {α β : Type} {F : α → Option β} {enc : α → List V} {ok : α → Prop} {er : β → V}
    (h : ∀ x r, ok x → (F x).bind some = some r → (enc x).length ≤ fn.ntmps ∧ awp P C fn.ntmps 0 c (endW P fn (er r)) (startT (enc x)) [] 0) : Has P f (conK F enc ok er) :=
  ⟨soundW_of_awp (con := conK F enc ok er) hC hmix hf hb fun x hx => h x.1 x.2 hx.2 (by show (F x.1).bind some = _; rw [show F x.1 = some x.2 from hx.1]; rfl), enters_ok hf hn (by simp [hb])⟩
theorem g_hcall {α β : Type} {F : α → Option β} {enc : α → List V} {ok : α → Prop} {er : β → V} {avs : List V} {K : V → ST → Prop} {x : α} {y : β} (hy : F x = some y) (ha : LeVs avs (enc x)) (hok : ok x)
    (h : (RM.retF (er y)).go st K) : (RM.exi (conK F enc ok er).α (fun z => LeVs avs ((conK F enc ok er).enc z) ∧ (conK F enc ok er).ok z) (fun z => RM.retF ((conK F enc ok er).res z))).go st K := ⟨(x, y), ⟨ha, hy, hok⟩, h⟩
theorem g_hcallT {α β : Type} {F : α → Option β} {enc : α → List V} {ok : α → Prop} {er : β → V} {avs : List V} {K : V → ST → List Nat → List Nat → Prop} {x : α} {y : β} (hy : F x = some y) (ha : LeVs avs (enc x)) (hok : ok x)
    (h : (RM.retF (er y)).goT st rs ws K) : (RM.exi (conK F enc ok er).α (fun z => LeVs avs ((conK F enc ok er).enc z) ∧ (conK F enc ok er).ok z) (fun z => RM.retF ((conK F enc ok er).res z))).goT st rs ws K := ⟨(x, y), ⟨ha, hy, hok⟩, h⟩
theorem map_plain {d : Nat} : ∀ (l : List V) (k : List V → RM), l.all plain = true → mapRM (fz (d + 1)) l k = k l
  | [], k, _ => rfl
  | c :: l, k, h => by
    simp only [List.all_cons, Bool.and_eq_true] at h
    have e : ∀ k, fz (d + 1) c k = k c := by
      intro k
      have h1 := h.1
      clear h
      cases c <;> first | rfl | (simp [plain] at h1)
    rw [mapRM, e, map_plain l _ h.2]
theorem go_map {d : Nat} {caps l : List V} {k : List V → RM} {K : V → ST → Prop} (h : caps.all plain = true) (hl : l = caps) (hk : (k caps).go st K) : (mapRM (fz (d + 1)) l k).go st K := by
  subst hl
  rw [map_plain l k h]; exact hk
theorem goT_map {d : Nat} {caps l : List V} {k : List V → RM} {K : V → ST → List Nat → List Nat → Prop} (h : caps.all plain = true) (hl : l = caps) (hk : (k caps).goT st rs ws K) : (mapRM (fz (d + 1)) l k).goT st rs ws K := by
  subst hl
  rw [map_plain l k h]; exact hk

theorem hasF (hC : CtxOK P C) (hmix : P.follows .mixedOrders = true) {f : FuncId} {fn : Func} {c : Code} (hf : P.funcs[f]? = some fn) (hb : fn.body = some c)
    (hn : (fn.name == "runtime.NumGoroutine") = false) {α β : Type} {F : α → Option β} {enc : α → List V} {er : β → V}
    (h : ∀ x r, (F x).bind some = some r → (enc x).length ≤ fn.ntmps ∧ awp P C fn.ntmps 0 c (endW P fn (er r)) (startT (enc x)) [] 0) : Has P f (conF F enc er) :=
  ⟨soundW_of_awp (con := conF F enc er) hC hmix hf hb fun x hx => h x.1 x.2 (by show (F x.1).bind some = _; rw [show F x.1 = some x.2 from hx]; rfl), enters_ok hf hn (by simp [hb])⟩

theorem hasFR (hC : CtxOK P C) (hmix : P.follows .mixedOrders = true) {f : FuncId} {fn : Func} {c : Code} (hf : P.funcs[f]? = some fn) (hb : fn.body = some c)
    (hn : (fn.name == "runtime.NumGoroutine") = false) {α β : Type} {F : α → Option β} {enc : α → List V} {er : β → V} {ty : TypeId} {size : Nat}
    (h : ∀ x r, (F x).bind some = some r → (enc x).length ≤ fn.ntmps ∧ awp P C fn.ntmps 0 c (endR fn ty size (er r)) (startT (enc x)) [] 0) : Has P f (conR F enc er ty size) :=
  ⟨soundF_of_awp (con := conR F enc er ty size) hC hmix hf hb fun x hx => h x.1 x.2 (by show (F x.1).bind some = _; rw [show F x.1 = some x.2 from hx]; rfl), enters_ok hf hn (by simp [hb])⟩

theorem g_callR {α β : Type} {F : α → Option β} {enc : α → List V} {er : β → V} {ty : TypeId} {size : Nat} {avs : List V} {K : V → ST → Prop} {x : α} {y : β} (hy : F x = some y) (ha : LeVs avs (enc x))
    (h : (freshR id ty size (er y)).go st K) : (RM.exi (conR F enc er ty size).α (fun z => LeVs avs ((conR F enc er ty size).enc z) ∧ (conR F enc er ty size).ok z) (fun z => freshR id ty size ((conR F enc er ty size).res z))).go st K := ⟨(x, y), ⟨ha, hy⟩, h⟩

theorem g_callRT {α β : Type} {F : α → Option β} {enc : α → List V} {er : β → V} {ty : TypeId} {size : Nat} {avs : List V} {K : V → ST → List Nat → List Nat → Prop} {x : α} {y : β} (hy : F x = some y) (ha : LeVs avs (enc x))
    (h : (freshR id ty size (er y)).goT st rs ws K) : (RM.exi (conR F enc er ty size).α (fun z => LeVs avs ((conR F enc er ty size).enc z) ∧ (conR F enc er ty size).ok z) (fun z => freshR id ty size ((conR F enc er ty size).res z))).goT st rs ws K := ⟨(x, y), ⟨ha, hy⟩, h⟩

theorem has_lend {f : FuncId} {α β : Type} {F : α → Option β} {enc : α → List V} {er : β → V} (h : Has P f (conF F enc er)) (hf : ∀ r F H v F2 H2, RC F H (er r) v → RC F2 H2 (er r) v) : Has P f (conL' F enc er) :=
  ⟨⟨h.1, fun x F H v F2 H2 hc => hf _ _ _ _ _ _ hc⟩, h.2⟩
theorem g_callL {α β : Type} {F : α → Option β} {enc : α → List V} {er : β → V} {avs : List V} {K : V → ST → Prop} {x : α} {y : β} (hy : F x = some y) (ha : LeVs avs (enc x))
    (h : (RM.retF (er y)).go st K) : (RM.exi (conL' F enc er).α (fun z => LeVs avs ((conL' F enc er).enc z) ∧ (conL' F enc er).ok z) (fun z => RM.retF ((conL' F enc er).res z))).go st K := ⟨(x, y), ⟨ha, hy⟩, h⟩
theorem g_callLT {α β : Type} {F : α → Option β} {enc : α → List V} {er : β → V} {avs : List V} {K : V → ST → List Nat → List Nat → Prop} {x : α} {y : β} (hy : F x = some y) (ha : LeVs avs (enc x))
    (h : (RM.retF (er y)).goT st rs ws K) : (RM.exi (conL' F enc er).α (fun z => LeVs avs ((conL' F enc er).enc z) ∧ (conL' F enc er).ok z) (fun z => RM.retF ((conL' F enc er).res z))).goT st rs ws K := ⟨(x, y), ⟨ha, hy⟩, h⟩
theorem g_callRL {α β : Type} {F : α → Option β} {enc : α → List V} {er : β → V} {ty : TypeId} {size : Nat} {avs : List V} {K : V → ST → Prop} {x : α} {y : β} (hy : F x = some y) (ha : LeVs avs (enc x))
    (h : (freshR id ty size (er y)).go st K) : (RM.exi (conRL F enc er ty size).α (fun z => LeVs avs ((conRL F enc er ty size).enc z) ∧ (conRL F enc er ty size).ok z) (fun z => freshR id ty size ((conRL F enc er ty size).res z))).go st K := ⟨(x, y), ⟨ha, hy⟩, h⟩

theorem g_callRLT {α β : Type} {F : α → Option β} {enc : α → List V} {er : β → V} {ty : TypeId} {size : Nat} {avs : List V} {K : V → ST → List Nat → List Nat → Prop} {x : α} {y : β} (hy : F x = some y) (ha : LeVs avs (enc x))
    (h : (freshR id ty size (er y)).goT st rs ws K) : (RM.exi (conRL F enc er ty size).α (fun z => LeVs avs ((conRL F enc er ty size).enc z) ∧ (conRL F enc er ty size).ok z) (fun z => freshR id ty size ((conRL F enc er ty size).res z))).goT st rs ws K := ⟨(x, y), ⟨ha, hy⟩, h⟩

theorem g_call {α β : Type} {F : α → Option β} {enc : α → List V} {er : β → V} {avs : List V} {K : V → ST → Prop} {x : α} {y : β} (hy : F x = some y) (ha : LeVs avs (enc x))
    (h : (RM.retF (er y)).go st K) : (RM.exi (conF F enc er).α (fun z => LeVs avs ((conF F enc er).enc z) ∧ (conF F enc er).ok z) (fun z => RM.retF ((conF F enc er).res z))).go st K := ⟨(x, y), ⟨ha, hy⟩, h⟩
theorem g_callT {α β : Type} {F : α → Option β} {enc : α → List V} {er : β → V} {avs : List V} {K : V → ST → List Nat → List Nat → Prop} {x : α} {y : β} (hy : F x = some y) (ha : LeVs avs (enc x))
    (h : (RM.retF (er y)).goT st rs ws K) : (RM.exi (conF F enc er).α (fun z => LeVs avs ((conF F enc er).enc z) ∧ (conF F enc er).ok z) (fun z => RM.retF ((conF F enc er).res z))).goT st rs ws K := ⟨(x, y), ⟨ha, hy⟩, h⟩

/-! tests whose answer is known -/
theorem ops_takeH {all : List Oper} {o : Oper} {os : List Oper} {K : TM → ST → Prop} {j d : Nat} {want b : Bool} (hb : b = want) (hd : okDst sz o.dst = true) (hg : o.guard = some (j, want)) (hj : (all[j]?).bind (·.dst) = some d) (hl : (look tm d).getD .top = .v (.bool b))
    (h : (opR P C id (ev tm) o.op).go st fun v st' => evOps P C sz all os (id + 1) (putT tm o.dst v) st' K) : evOps P C sz all (o :: os) id tm st K := ops_take hd hg hj (by rw [hl, hb]) h
theorem ops_skipH {all : List Oper} {o : Oper} {os : List Oper} {K : TM → ST → Prop} {j d : Nat} {want b : Bool} (hb : b = !want) (hd : okDst sz o.dst = true) (hg : o.guard = some (j, want)) (hj : (all[j]?).bind (·.dst) = some d) (hl : (look tm d).getD .top = .v (.bool b))
    (h : evOps P C sz all os (id + 1) (putT tm o.dst vU) st K) : evOps P C sz all (o :: os) id tm st K := ops_skip hd hg hj (by rw [hl, hb]) h
theorem st_condTH {x : Operand} {a b : Code} {p : Bool} {Q : AX → TM → ST → Nat → Prop} (hp : p = true) (hc : ev tm x = .v (.bool p)) (h1 : awp P C sz pins a Q tm st nx) : awp P C sz pins (.cond x a b) Q tm st nx := st_condT (by rw [hc, hp]) h1
theorem st_condFH {x : Operand} {a b : Code} {p : Bool} {Q : AX → TM → ST → Nat → Prop} (hp : p = false) (hc : ev tm x = .v (.bool p)) (h1 : awp P C sz pins b Q tm st nx) : awp P C sz pins (.cond x a b) Q tm st nx := st_condF (by rw [hc, hp]) h1
variable {ops : Array Oper} {o : Oper} {os : List Oper} {i : Nat} {prev : List (Nat × Oper × List Nat × List Nat)}
theorem d_takeH {K : TM → ST → Prop} {j d : Nat} {want b : Bool} (hb : b = want) (hd : okDst sz o.dst = true) (hg : o.guard = some (j, want)) (hj : (ops.toList[j]?).bind (·.dst) = some d) (hl : (look tm d).getD .top = .v (.bool b))
    (h : (opR P C (nx + i) (ev tm) o.op).goT st [] [] (dK P C sz ops nx o os i tm prev K)) : evOpsD P C sz ops nx (o :: os) i tm st prev K := d_take hd hg hj (by rw [hl, hb]) h
theorem d_skipH {K : TM → ST → Prop} {j d : Nat} {want b : Bool} (hb : b = !want) (hd : okDst sz o.dst = true) (hg : o.guard = some (j, want)) (hj : (ops.toList[j]?).bind (·.dst) = some d) (hl : (look tm d).getD .top = .v (.bool b)) (hi : indepB ops o [] [] prev = true)
    (h : evOpsD P C sz ops nx os (i + 1) (putT tm o.dst vU) st ((i, o, [], []) :: prev) K) : evOpsD P C sz ops nx (o :: os) i tm st prev K := d_skip hd hg hj (by rw [hl, hb]) hi h

/-! loops -/
/-- A loop: its rounds over data, and the states at its head. -/
structure LoopD (S E Γ : Type) where
  step : S → Option (S ⊕ E)
  at_ : S → Γ → LS

section loops
variable {S E R Γ : Type}
abbrev LoopA (step : S → Option (S ⊕ E)) (K : E → Option R) (r : R) (Γ : Type) := { x : Nat × S × Γ // (loopN step x.1 x.2.1).bind K = some r }
theorem st_loopF {L : LoopD S E Γ} {K : E → Option R} {r : R} {s0 : S} {c : Code} {Q : AX → TM → ST → Nat → Prop} (hF : (loopC L.step s0).bind K = some r) (g0 : Γ) (ren : List (Nat × Nat)) (hs : Sub pins ren (L.at_ s0 g0).tm (L.at_ s0 g0).st (L.at_ s0 g0).nx tm st)
    (h : ∀ (n : Nat) (s : S) (g : Γ) (x : LoopA L.step K r Γ), x.1.1 = n + 1 → (L.step s).bind (nextF L.step K n) = some r → awp P C sz pins c (loopK pins (fun y : LoopA L.step K r Γ => L.at_ y.1.2.1 y.1.2.2) (fun y => y.1.1) x Q) (L.at_ s g).tm (L.at_ s g).st (L.at_ s g).nx) : awp P C sz pins (.loop c) Q tm st nx := by
  obtain ⟨e, he, hk⟩ : ∃ e, loopC L.step s0 = some e ∧ K e = some r := by
    cases hl : loopC L.step s0 with
    | none => rw [hl] at hF; cases hF
    | some e => rw [hl] at hF; exact ⟨e, rfl, hF⟩
  obtain ⟨n, hn⟩ := loopC_ex he
  refine st_loop (α := LoopA L.step K r Γ) (mk := fun y => L.at_ y.1.2.1 y.1.2.2) (μ := fun y => y.1.1) ⟨⟨(n, s0, g0), by rw [hn]; exact hk⟩, ren, hs⟩ ?_
  rintro ⟨⟨n, s, g⟩, hx⟩
  cases n with
  | zero => cases hx
  | succ n =>
    refine h n s g ⟨(n + 1, s, g), hx⟩ rfl ?_
    simp only [loopN] at hx
    cases hs : L.step s with
    | none => rw [hs] at hx; cases hx
    | some o =>
      rw [hs] at hx
      cases o with
      | inl s' => exact hx
      | inr e => exact hx
theorem k_loopF {L : LoopD S E Γ} {K : E → Option R} {r : R} {x : LoopA L.step K r Γ} {n : Nat} {Q : AX → TM → ST → Nat → Prop} {s' : S} (hF : nextF L.step K n (.inl s') = some r) (hx : x.1.1 = n + 1) (g' : Γ) (ren : List (Nat × Nat))
    (hs : Sub pins ren (L.at_ s' g').tm (L.at_ s' g').st (L.at_ s' g').nx tm st) : loopK pins (fun y : LoopA L.step K r Γ => L.at_ y.1.2.1 y.1.2.2) (fun y => y.1.1) x Q .normal tm st nx :=
  k_loop (⟨(n, s', g'), hF⟩ : LoopA L.step K r Γ) ren hs (by show n < x.1.1; omega)
end loops
end

/-! lists -/
/-- An element of a list by its number. -/
def idx? {α : Type} (l : List α) (j : Int) : Option α := if 0 ≤ j then l[j.toNat]? else none
theorem idx?_lt {α : Type} {l : List α} {j : Int} {x : α} (h : idx? l j = some x) : 0 ≤ j ∧ j < l.length ∧ ∃ hj : j.toNat < l.length, l[j.toNat] = x := by
  unfold idx? at h
  split at h
  · obtain ⟨hj, hx⟩ := List.getElem?_eq_some_iff.mp h
    exact ⟨by assumption, by omega, hj, hx⟩
  · cases h
theorem recs_at {α : Type} {enc : α → List V} {s : Nat} (he : ∀ a, (enc a).length = s) {l : List α} {j : Int} {x : α} (h : idx? l j = some x) : ∃ rest, (recs enc l).drop (j.toNat * s) = enc x ++ rest := by
  obtain ⟨_, _, hj, hx⟩ := idx?_lt h
  refine ⟨recs enc (l.drop (j.toNat + 1)), ?_⟩
  rw [recs_drop he, List.drop_eq_getElem_cons hj, hx]
  rfl

section
variable {st : ST} {rs ws : List Nat}
/-- The address of an element. -/
theorem o_ia {α : Type} {enc : α → List V} {s : Nat} {l : List α} {j : Int} {a : α} {d : Decidable (0 ≤ j ∧ j < (l.length : Int) ∧ l.length * s = (recs enc l).length ∧ 0 < s)} {K : V → ST → Prop} (h : idx? l j = some a) (he : ∀ a, (enc a).length = s) (hs : 0 < s)
    (hk : ∀ rest, (RM.ret (.fptr (enc a ++ rest))).go st K) : (@RM.dec (0 ≤ j ∧ j < (l.length : Int) ∧ l.length * s = (recs enc l).length ∧ 0 < s) (RM.ret (.fptr ((recs enc l).drop (j.toNat * s)))) d).go st K := by
  obtain ⟨h0, h1, _⟩ := idx?_lt h
  obtain ⟨rest, hr⟩ := recs_at he h
  refine ⟨⟨h0, h1, by rw [recs_length he], hs⟩, ?_⟩
  rw [hr]
  exact hk rest
theorem o_iaT {α : Type} {enc : α → List V} {s : Nat} {l : List α} {j : Int} {a : α} {d : Decidable (0 ≤ j ∧ j < (l.length : Int) ∧ l.length * s = (recs enc l).length ∧ 0 < s)} {K : V → ST → List Nat → List Nat → Prop} (h : idx? l j = some a) (he : ∀ a, (enc a).length = s) (hs : 0 < s)
    (hk : ∀ rest, (RM.ret (.fptr (enc a ++ rest))).goT st rs ws K) : (@RM.dec (0 ≤ j ∧ j < (l.length : Int) ∧ l.length * s = (recs enc l).length ∧ 0 < s) (RM.ret (.fptr ((recs enc l).drop (j.toNat * s)))) d).goT st rs ws K := by
  obtain ⟨h0, h1, _⟩ := idx?_lt h
  obtain ⟨rest, hr⟩ := recs_at he h
  refine ⟨⟨h0, h1, by rw [recs_length he], hs⟩, ?_⟩
  rw [hr]
  exact hk rest
end

/-- A divisor. -/
def nz? (b : Int) : Option Unit := if b ≠ 0 then some () else none
theorem nz_ne {b : Int} {u : Unit} (h : nz? b = some u) : b ≠ 0 := by
  unfold nz? at h
  split at h
  · assumption
  · cases h
/-- A part of a list. -/
def slc? {α : Type} (l : List α) (i j : Int) : Option (List α) := if 0 ≤ i ∧ i ≤ j ∧ j ≤ l.length then some ((l.drop i.toNat).take (j.toNat - i.toNat)) else none
theorem recs_take {α : Type} {enc : α → List V} {s : Nat} (he : ∀ a, (enc a).length = s) (l : List α) (k : Nat) : (recs enc l).take (k * s) = recs enc (l.take k) := by
  induction l generalizing k with
  | nil => simp [recs]
  | cons a l ih =>
    cases k with
    | zero => simp [recs]
    | succ k =>
      have e : (k + 1) * s = (enc a).length + k * s := by rw [he, Nat.add_mul]; omega
      rw [show recs enc (a :: l) = enc a ++ recs enc l from rfl, e, List.take_length_add_append, ih]
      rfl
section
variable {st : ST} {rs ws : List Nat}
theorem slc_eq {α : Type} {enc : α → List V} {s : Nat} {l m : List α} {i j : Int} (h : slc? l i j = some m) (he : ∀ a, (enc a).length = s) :
    (0 ≤ i ∧ i ≤ j ∧ j ≤ (l.length : Int) ∧ l.length * s = (recs enc l).length) ∧ ((recs enc l).drop (i.toNat * s)).take ((j.toNat - i.toNat) * s) = recs enc m ∧ j.toNat - i.toNat = m.length := by
  unfold slc? at h
  split at h
  · next hc =>
    cases h
    refine ⟨⟨hc.1, hc.2.1, hc.2.2, (recs_length he l).symm⟩, ?_, ?_⟩
    · rw [recs_drop he, recs_take he]
    · simp; omega
  · cases h
theorem o_slc {α : Type} {enc : α → List V} {s : Nat} {l m : List α} {i j : Int} {d : Decidable (0 ≤ i ∧ i ≤ j ∧ j ≤ (l.length : Int) ∧ l.length * s = (recs enc l).length)} {K : V → ST → Prop} (h : slc? l i j = some m) (he : ∀ a, (enc a).length = s)
    (hk : (RM.ret (.sl (recs enc m) m.length)).go st K) : (@RM.dec (0 ≤ i ∧ i ≤ j ∧ j ≤ (l.length : Int) ∧ l.length * s = (recs enc l).length) (.ret (.sl (((recs enc l).drop (i.toNat * s)).take ((j.toNat - i.toNat) * s)) (j.toNat - i.toNat))) d).go st K := by
  obtain ⟨h1, h2, h3⟩ := slc_eq h he
  rw [h2, h3]
  exact ⟨h1, hk⟩
theorem o_slcT {α : Type} {enc : α → List V} {s : Nat} {l m : List α} {i j : Int} {d : Decidable (0 ≤ i ∧ i ≤ j ∧ j ≤ (l.length : Int) ∧ l.length * s = (recs enc l).length)} {K : V → ST → List Nat → List Nat → Prop} (h : slc? l i j = some m) (he : ∀ a, (enc a).length = s)
    (hk : (RM.ret (.sl (recs enc m) m.length)).goT st rs ws K) : (@RM.dec (0 ≤ i ∧ i ≤ j ∧ j ≤ (l.length : Int) ∧ l.length * s = (recs enc l).length) (.ret (.sl (((recs enc l).drop (i.toNat * s)).take ((j.toNat - i.toNat) * s)) (j.toNat - i.toNat))) d).goT st rs ws K := by
  obtain ⟨h1, h2, h3⟩ := slc_eq h he
  rw [h2, h3]
  exact ⟨h1, hk⟩
end

/-! lists of the call's own -/
/-- A list, and another behind it; by bytes each. -/
def app? {α : Type} (l m : List α) (by_ : Nat) : Option (List α) := if (l.length + m.length) * by_ ≤ 140737488355328 ∧ 0 < by_ then some (l ++ m) else none
def appn? {α : Type} (m : List α) (by_ : Nat) : Option (List α) := if m.length * by_ ≤ 140737488355328 ∧ 0 < by_ ∧ 0 < m.length then some m else none
/-- A new list. -/
def mk? {α : Type} (z : α) (n : Int) (by_ : Nat) : Option (List α) := if 0 ≤ n ∧ n * by_ ≤ 281474976710656 ∧ n ≤ 140737488355328 then some (List.replicate n.toNat z) else none
/-- A list with another element. -/
def set? {α : Type} (l : List α) (j : Int) (x : α) : Option (List α) := if 0 ≤ j ∧ j < l.length then some (l.set j.toNat x) else none

theorem recs_append {α : Type} (enc : α → List V) (l m : List α) : recs enc l ++ recs enc m = recs enc (l ++ m) := by simp [recs]
theorem app_eq {α : Type} {enc : α → List V} {s : Nat} {l m r : List α} {n : Nat} (h : app? l m n = some r) (he : ∀ a, (enc a).length = s) :
    (l.length * s = (recs enc l).length ∧ l.length + m.length ≤ maxLen ∧ (l.length + m.length) * n ≤ 140737488355328) ∧ recs enc l ++ recs enc m = recs enc r ∧ l.length + m.length = r.length := by
  unfold app? at h
  split at h
  · next hc =>
    cases h
    refine ⟨⟨(recs_length he l).symm, ?_, hc.1⟩, recs_append enc l m, by simp⟩
    have h1 : l.length + m.length ≤ (l.length + m.length) * n := Nat.le_mul_of_pos_right _ hc.2
    have h2 : (140737488355328 : Nat) ≤ maxLen := by decide
    omega
  · cases h
theorem appn_eq {α : Type} {enc : α → List V} {s : Nat} {m r : List α} {n : Nat} (h : appn? m n = some r) (he : ∀ a, (enc a).length = s) :
    (m.length ≤ maxLen ∧ m.length * n ≤ 140737488355328 ∧ 0 < m.length) ∧ m = r := by
  unfold appn? at h
  split at h
  · next hc =>
    cases h
    refine ⟨⟨?_, hc.1, hc.2.2⟩, rfl⟩
    have h1 : m.length ≤ m.length * n := Nat.le_mul_of_pos_right _ hc.2.1
    have h2 : (140737488355328 : Nat) ≤ maxLen := by decide
    omega
  · cases h
theorem mk_eq {α : Type} {enc : α → List V} {s : Nat} {z : α} {n : Int} {k : Nat} {r : List α} (h : mk? z n k = some r) (hs : 0 < s) :
    (0 ≤ n ∧ n = n ∧ n * k ≤ 281474976710656 ∧ 0 < s ∧ n ≤ maxLen) ∧ (List.replicate n.toNat (enc z)).flatten = recs enc r ∧ n.toNat = r.length := by
  unfold mk? at h
  split at h
  · next hc =>
    cases h
    refine ⟨⟨hc.1, rfl, hc.2.1, hs, ?_⟩, recs_replicate z _, by simp⟩
    have h2 : (140737488355328 : Int) ≤ maxLen := by decide
    omega
  · cases h
theorem set_eq {α : Type} {enc : α → List V} {s o n : Nat} {l r : List α} {j : Int} {a b : α} {new : List V} (hi : idx? l j = some a) (h : set? l j b = some r) (he : ∀ a, (enc a).length = s) (ho : o + n ≤ s)
    (hn : new.length = n) (hb : (enc a).take o ++ new ++ (enc a).drop (o + n) = enc b) :
    (new.length = n ∧ j.toNat * s + o + n ≤ (recs enc l).length ∧ 0 ≤ j.toNat * s + o) ∧ (recs enc l).take (j.toNat * s + o) ++ new ++ (recs enc l).drop (j.toNat * s + o + n) = recs enc r := by
  obtain ⟨h0, h1, hj, hx⟩ := idx?_lt hi
  unfold set? at h
  rw [if_pos ⟨h0, h1⟩] at h
  cases h
  refine ⟨⟨hn, ?_, Nat.zero_le _⟩, ?_⟩
  · rw [recs_length he]
    have : (j.toNat + 1) * s ≤ l.length * s := Nat.mul_le_mul_right s hj
    rw [Nat.add_mul] at this
    omega
  · rw [← recs_set (s := s) he l j.toNat b hj, ← hb]
    obtain ⟨rest, hr⟩ := recs_at he hi
    have hla : (enc a).length = s := he a
    have hl : (recs enc l).length = l.length * s := recs_length he l
    have hle : j.toNat * s + s ≤ (recs enc l).length := by
      rw [hl]
      have : (j.toNat + 1) * s ≤ l.length * s := Nat.mul_le_mul_right s hj
      rw [Nat.add_mul] at this
      omega
    have e1 : (recs enc l).take (j.toNat * s + o) = (recs enc l).take (j.toNat * s) ++ (enc a).take o := by
      rw [List.take_add, hr, List.take_append_of_le_length (by omega)]
    have h3 : (recs enc l).drop (j.toNat * s + s) = rest := by
      rw [← List.drop_drop, hr, List.drop_append_of_le_length (by omega), ← hla, List.drop_length]
      rfl
    have e2 : (recs enc l).drop (j.toNat * s + o + n) = (enc a).drop (o + n) ++ (recs enc l).drop (j.toNat * s + s) := by
      rw [h3, show j.toNat * s + o + n = j.toNat * s + (o + n) by omega, ← List.drop_drop, hr, List.drop_append_of_le_length (by omega)]
    rw [e1, e2]
    simp [List.append_assoc]

section
variable {st : ST} {rs ws : List Nat}
theorem o_app {α : Type} {enc : α → List V} {s n : Nat} {l m r : List α} {b id : Nat} {e : TypeId} {p : Nat} {d : Decidable (l.length * s = (recs enc l).length ∧ l.length + m.length ≤ maxLen ∧ (l.length + m.length) * n ≤ 140737488355328)} {K : V → ST → Prop} (h : app? l m n = some r) (he : ∀ a, (enc a).length = s)
    (hk : (RM.ret (.osl id r.length)).go ((id, .row e s (recs enc r) p) :: (b, .dead) :: st) K) : (@RM.dec (l.length * s = (recs enc l).length ∧ l.length + m.length ≤ maxLen ∧ (l.length + m.length) * n ≤ 140737488355328) (.put b .dead (.put id (.row e s (recs enc l ++ recs enc m) p) (.ret (.osl id (l.length + m.length))))) d).go st K := by
  obtain ⟨h1, h2, h3⟩ := app_eq h he
  rw [← h2, ← h3] at hk
  exact ⟨h1, hk⟩
theorem o_appT {α : Type} {enc : α → List V} {s n : Nat} {l m r : List α} {b id : Nat} {e : TypeId} {p : Nat} {d : Decidable (l.length * s = (recs enc l).length ∧ l.length + m.length ≤ maxLen ∧ (l.length + m.length) * n ≤ 140737488355328)} {K : V → ST → List Nat → List Nat → Prop} (h : app? l m n = some r) (he : ∀ a, (enc a).length = s)
    (hk : (RM.ret (.osl id r.length)).goT ((id, .row e s (recs enc r) p) :: (b, .dead) :: st) rs (id :: b :: ws) K) : (@RM.dec (l.length * s = (recs enc l).length ∧ l.length + m.length ≤ maxLen ∧ (l.length + m.length) * n ≤ 140737488355328) (.put b .dead (.put id (.row e s (recs enc l ++ recs enc m) p) (.ret (.osl id (l.length + m.length))))) d).goT st rs ws K := by
  obtain ⟨h1, h2, h3⟩ := app_eq h he
  rw [← h2, ← h3] at hk
  exact ⟨h1, hk⟩
theorem o_appn {α : Type} {enc : α → List V} {s n : Nat} {m r : List α} {id : Nat} {e : TypeId} {d : Decidable (m.length ≤ maxLen ∧ m.length * n ≤ 140737488355328 ∧ 0 < m.length)} {K : V → ST → Prop} (h : appn? m n = some r) (he : ∀ a, (enc a).length = s)
    (hk : (RM.ret (.osl id r.length)).go ((id, .row e s (recs enc r) 0) :: st) K) : (@RM.dec (m.length ≤ maxLen ∧ m.length * n ≤ 140737488355328 ∧ 0 < m.length) (.put id (.row e s (recs enc m) 0) (.ret (.osl id m.length))) d).go st K := by
  obtain ⟨h1, rfl⟩ := appn_eq h he
  exact ⟨h1, hk⟩
theorem o_appnT {α : Type} {enc : α → List V} {s n : Nat} {m r : List α} {id : Nat} {e : TypeId} {d : Decidable (m.length ≤ maxLen ∧ m.length * n ≤ 140737488355328 ∧ 0 < m.length)} {K : V → ST → List Nat → List Nat → Prop} (h : appn? m n = some r) (he : ∀ a, (enc a).length = s)
    (hk : (RM.ret (.osl id r.length)).goT ((id, .row e s (recs enc r) 0) :: st) rs (id :: ws) K) : (@RM.dec (m.length ≤ maxLen ∧ m.length * n ≤ 140737488355328 ∧ 0 < m.length) (.put id (.row e s (recs enc m) 0) (.ret (.osl id m.length))) d).goT st rs ws K := by
  obtain ⟨h1, rfl⟩ := appn_eq h he
  exact ⟨h1, hk⟩
theorem o_mk {α : Type} {enc : α → List V} {s k : Nat} {z : α} {n : Int} {r : List α} {id : Nat} {e : TypeId} {zc : List V} {d : Decidable (0 ≤ n ∧ n = n ∧ n * k ≤ 281474976710656 ∧ 0 < s ∧ n ≤ maxLen)} {K : V → ST → Prop} (h : mk? z n k = some r) (hs : 0 < s) (hz : zc = enc z)
    (hk : (RM.ret (.osl id r.length)).go ((id, .row e s (recs enc r) 0) :: st) K) : (@RM.dec (0 ≤ n ∧ n = n ∧ n * k ≤ 281474976710656 ∧ 0 < s ∧ n ≤ maxLen) (.put id (.row e s (List.replicate n.toNat zc).flatten 0) (.ret (.osl id n.toNat))) d).go st K := by
  obtain ⟨h1, h2, h3⟩ := mk_eq (enc := enc) (s := s) h hs
  subst hz
  rw [h2, h3]
  exact ⟨h1, hk⟩
theorem o_mkT {α : Type} {enc : α → List V} {s k : Nat} {z : α} {n : Int} {r : List α} {id : Nat} {e : TypeId} {zc : List V} {d : Decidable (0 ≤ n ∧ n = n ∧ n * k ≤ 281474976710656 ∧ 0 < s ∧ n ≤ maxLen)} {K : V → ST → List Nat → List Nat → Prop} (h : mk? z n k = some r) (hs : 0 < s) (hz : zc = enc z)
    (hk : (RM.ret (.osl id r.length)).goT ((id, .row e s (recs enc r) 0) :: st) rs (id :: ws) K) : (@RM.dec (0 ≤ n ∧ n = n ∧ n * k ≤ 281474976710656 ∧ 0 < s ∧ n ≤ maxLen) (.put id (.row e s (List.replicate n.toNat zc).flatten 0) (.ret (.osl id n.toNat))) d).goT st rs ws K := by
  obtain ⟨h1, h2, h3⟩ := mk_eq (enc := enc) (s := s) h hs
  subst hz
  rw [h2, h3]
  exact ⟨h1, hk⟩
theorem oidx_ok {α : Type} {l : List α} {j : Int} {a : α} {s : Nat} (h : idx? l j = some a) (hs : 0 < s) : 0 ≤ j ∧ j < (l.length : Int) ∧ 0 < s := by
  obtain ⟨h0, h1, _⟩ := idx?_lt h
  exact ⟨h0, h1, hs⟩
theorem own_at {α : Type} {enc : α → List V} {s o n : Nat} {l : List α} {j : Int} {a : α} (h : idx? l j = some a) (he : ∀ a, (enc a).length = s) (ho : o + n ≤ s) :
    j.toNat * s + o + n ≤ (recs enc l).length ∧ ((recs enc l).drop (j.toNat * s + o)).take n = ((enc a).drop o).take n := by
  obtain ⟨h0, h1, hj, hx⟩ := idx?_lt h
  obtain ⟨rest, hr⟩ := recs_at he h
  have hla := he a
  constructor
  · rw [recs_length he]
    have : (j.toNat + 1) * s ≤ l.length * s := Nat.mul_le_mul_right s hj
    rw [Nat.add_mul] at this
    omega
  · rw [← List.drop_drop, hr, List.drop_append_of_le_length (by omega), List.take_append_of_le_length (by simp; omega)]
/-- A record, or a part of one, out of an own list. -/
theorem o_ldA {α : Type} {enc : α → List V} {s n : Nat} {l : List α} {j : Int} {a : α} {d : Decidable (j.toNat * s + n ≤ (recs enc l).length)} {K : V → ST → Prop} (h : idx? l j = some a) (he : ∀ a, (enc a).length = s) (ho : 0 + n ≤ s)
    (hk : (RM.retF (.agg (((enc a).drop 0).take n))).go st K) : (@RM.dec (j.toNat * s + n ≤ (recs enc l).length) (RM.retF (.agg (((recs enc l).drop (j.toNat * s)).take n))) d).go st K := by
  obtain ⟨h1, h2⟩ := own_at (o := 0) h he ho
  rw [Nat.add_zero] at h1 h2
  rw [h2]; exact ⟨h1, hk⟩
theorem o_ldB {α : Type} {enc : α → List V} {s o n : Nat} {l : List α} {j : Int} {a : α} {d : Decidable (j.toNat * s + o + n ≤ (recs enc l).length)} {K : V → ST → Prop} (h : idx? l j = some a) (he : ∀ a, (enc a).length = s) (ho : o + n ≤ s)
    (hk : (RM.retF (.agg (((enc a).drop o).take n))).go st K) : (@RM.dec (j.toNat * s + o + n ≤ (recs enc l).length) (RM.retF (.agg (((recs enc l).drop (j.toNat * s + o)).take n))) d).go st K := by
  obtain ⟨h1, h2⟩ := own_at h he ho
  rw [h2]; exact ⟨h1, hk⟩
theorem own_one {α : Type} {enc : α → List V} {s o : Nat} {l : List α} {j : Int} {a : α} (h : idx? l j = some a) (he : ∀ a, (enc a).length = s) (ho : o + 1 ≤ s) :
    j.toNat * s + o < (recs enc l).length ∧ ((recs enc l)[j.toNat * s + o]?).getD .top = ((enc a)[o]?).getD .top := by
  obtain ⟨h1, h2⟩ := own_at (o := o) (n := 1) h he ho
  refine ⟨by omega, ?_⟩
  have := congrArg (fun x => x[0]?) h2
  simp only [List.getElem?_take, List.getElem?_drop, if_pos (show 0 < 1 by decide), Nat.add_zero] at this
  rw [this]
theorem o_ldC {α : Type} {enc : α → List V} {s : Nat} {l : List α} {j : Int} {a : α} {d : Decidable (j.toNat * s < (recs enc l).length)} {K : V → ST → Prop} (h : idx? l j = some a) (he : ∀ a, (enc a).length = s) (ho : 0 + 1 ≤ s)
    (hk : (RM.retF (((enc a)[0]?).getD .top)).go st K) : (@RM.dec (j.toNat * s < (recs enc l).length) (RM.retF (((recs enc l)[j.toNat * s]?).getD .top)) d).go st K := by
  obtain ⟨h1, h2⟩ := own_one (o := 0) h he ho
  rw [Nat.add_zero] at h1 h2
  rw [h2]; exact ⟨h1, hk⟩
theorem o_ldD {α : Type} {enc : α → List V} {s o : Nat} {l : List α} {j : Int} {a : α} {d : Decidable (j.toNat * s + o < (recs enc l).length)} {K : V → ST → Prop} (h : idx? l j = some a) (he : ∀ a, (enc a).length = s) (ho : o + 1 ≤ s)
    (hk : (RM.retF (((enc a)[o]?).getD .top)).go st K) : (@RM.dec (j.toNat * s + o < (recs enc l).length) (RM.retF (((recs enc l)[j.toNat * s + o]?).getD .top)) d).go st K := by
  obtain ⟨h1, h2⟩ := own_one h he ho
  rw [h2]; exact ⟨h1, hk⟩
theorem o_ldAT {α : Type} {enc : α → List V} {s n : Nat} {l : List α} {j : Int} {a : α} {d : Decidable (j.toNat * s + n ≤ (recs enc l).length)} {K : V → ST → List Nat → List Nat → Prop} (h : idx? l j = some a) (he : ∀ a, (enc a).length = s) (ho : 0 + n ≤ s)
    (hk : (RM.retF (.agg (((enc a).drop 0).take n))).goT st rs ws K) : (@RM.dec (j.toNat * s + n ≤ (recs enc l).length) (RM.retF (.agg (((recs enc l).drop (j.toNat * s)).take n))) d).goT st rs ws K := by
  obtain ⟨h1, h2⟩ := own_at (o := 0) h he ho
  rw [Nat.add_zero] at h1 h2
  rw [h2]; exact ⟨h1, hk⟩
theorem o_ldBT {α : Type} {enc : α → List V} {s o n : Nat} {l : List α} {j : Int} {a : α} {d : Decidable (j.toNat * s + o + n ≤ (recs enc l).length)} {K : V → ST → List Nat → List Nat → Prop} (h : idx? l j = some a) (he : ∀ a, (enc a).length = s) (ho : o + n ≤ s)
    (hk : (RM.retF (.agg (((enc a).drop o).take n))).goT st rs ws K) : (@RM.dec (j.toNat * s + o + n ≤ (recs enc l).length) (RM.retF (.agg (((recs enc l).drop (j.toNat * s + o)).take n))) d).goT st rs ws K := by
  obtain ⟨h1, h2⟩ := own_at h he ho
  rw [h2]; exact ⟨h1, hk⟩
theorem o_ldCT {α : Type} {enc : α → List V} {s : Nat} {l : List α} {j : Int} {a : α} {d : Decidable (j.toNat * s < (recs enc l).length)} {K : V → ST → List Nat → List Nat → Prop} (h : idx? l j = some a) (he : ∀ a, (enc a).length = s) (ho : 0 + 1 ≤ s)
    (hk : (RM.retF (((enc a)[0]?).getD .top)).goT st rs ws K) : (@RM.dec (j.toNat * s < (recs enc l).length) (RM.retF (((recs enc l)[j.toNat * s]?).getD .top)) d).goT st rs ws K := by
  obtain ⟨h1, h2⟩ := own_one (o := 0) h he ho
  rw [Nat.add_zero] at h1 h2
  rw [h2]; exact ⟨h1, hk⟩
theorem o_ldDT {α : Type} {enc : α → List V} {s o : Nat} {l : List α} {j : Int} {a : α} {d : Decidable (j.toNat * s + o < (recs enc l).length)} {K : V → ST → List Nat → List Nat → Prop} (h : idx? l j = some a) (he : ∀ a, (enc a).length = s) (ho : o + 1 ≤ s)
    (hk : (RM.retF (((enc a)[o]?).getD .top)).goT st rs ws K) : (@RM.dec (j.toNat * s + o < (recs enc l).length) (RM.retF (((recs enc l)[j.toNat * s + o]?).getD .top)) d).goT st rs ws K := by
  obtain ⟨h1, h2⟩ := own_one h he ho
  rw [h2]; exact ⟨h1, hk⟩
/-- An element, or a part of one, is written. -/
theorem o_stA {α : Type} {enc : α → List V} {s n : Nat} {l r : List α} {j : Int} {a x : α} {new : List V} {b : Nat} {e : TypeId} {d : Decidable (new.length = n ∧ j.toNat * s + n ≤ (recs enc l).length ∧ 0 ≤ j.toNat * s)} {K : V → ST → Prop} (hi : idx? l j = some a) (h : set? l j x = some r) (he : ∀ a, (enc a).length = s) (ho : 0 + n ≤ s)
    (hn : new.length = n) (hb : (enc a).take 0 ++ new ++ (enc a).drop (0 + n) = enc x)
    (hk : (RM.ret .top).go ((b, .row e s (recs enc r) 0) :: st) K) : (@RM.dec (new.length = n ∧ j.toNat * s + n ≤ (recs enc l).length ∧ 0 ≤ j.toNat * s) (.put b (.row e s ((recs enc l).take (j.toNat * s) ++ new ++ (recs enc l).drop (j.toNat * s + n)) 0) (.ret .top)) d).go st K := by
  obtain ⟨h1, h2⟩ := set_eq (o := 0) hi h he ho hn hb
  simp only [Nat.add_zero] at h1 h2
  rw [h2]; exact ⟨h1, hk⟩
theorem o_stB {α : Type} {enc : α → List V} {s o n : Nat} {l r : List α} {j : Int} {a x : α} {new : List V} {b : Nat} {e : TypeId} {d : Decidable (new.length = n ∧ j.toNat * s + o + n ≤ (recs enc l).length ∧ 0 ≤ j.toNat * s + o)} {K : V → ST → Prop} (hi : idx? l j = some a) (h : set? l j x = some r) (he : ∀ a, (enc a).length = s) (ho : o + n ≤ s)
    (hn : new.length = n) (hb : (enc a).take o ++ new ++ (enc a).drop (o + n) = enc x)
    (hk : (RM.ret .top).go ((b, .row e s (recs enc r) 0) :: st) K) : (@RM.dec (new.length = n ∧ j.toNat * s + o + n ≤ (recs enc l).length ∧ 0 ≤ j.toNat * s + o) (.put b (.row e s ((recs enc l).take (j.toNat * s + o) ++ new ++ (recs enc l).drop (j.toNat * s + o + n)) 0) (.ret .top)) d).go st K := by
  obtain ⟨h1, h2⟩ := set_eq hi h he ho hn hb
  rw [h2]; exact ⟨h1, hk⟩
theorem o_stAT {α : Type} {enc : α → List V} {s n : Nat} {l r : List α} {j : Int} {a x : α} {new : List V} {b : Nat} {e : TypeId} {d : Decidable (new.length = n ∧ j.toNat * s + n ≤ (recs enc l).length ∧ 0 ≤ j.toNat * s)} {K : V → ST → List Nat → List Nat → Prop} (hi : idx? l j = some a) (h : set? l j x = some r) (he : ∀ a, (enc a).length = s) (ho : 0 + n ≤ s)
    (hn : new.length = n) (hb : (enc a).take 0 ++ new ++ (enc a).drop (0 + n) = enc x)
    (hk : (RM.ret .top).goT ((b, .row e s (recs enc r) 0) :: st) rs (b :: ws) K) : (@RM.dec (new.length = n ∧ j.toNat * s + n ≤ (recs enc l).length ∧ 0 ≤ j.toNat * s) (.put b (.row e s ((recs enc l).take (j.toNat * s) ++ new ++ (recs enc l).drop (j.toNat * s + n)) 0) (.ret .top)) d).goT st rs ws K := by
  obtain ⟨h1, h2⟩ := set_eq (o := 0) hi h he ho hn hb
  simp only [Nat.add_zero] at h1 h2
  rw [h2]; exact ⟨h1, hk⟩
end

/-! recursion -/
/-- Calls within calls, fewer than n. -/
def recN {α β : Type} (B : (α → Option β) → α → Option β) : Nat → α → Option β
  | 0, _ => none
  | n + 1, x => B (recN B n) x
open Classical in
/-- A function that calls itself, as deep as it needs. -/
noncomputable def fixC {α β : Type} (B : (α → Option β) → α → Option β) (x : α) : Option β :=
  if h : ∃ n e, recN B n x = some e then some h.choose_spec.choose else none
theorem fixC_ex {α β : Type} {B : (α → Option β) → α → Option β} {x : α} {y : β} (h : fixC B x = some y) : ∃ n, recN B n x = some y := by
  unfold fixC at h
  split at h
  · next hx => obtain rfl := Option.some.inj h; exact ⟨_, hx.choose_spec.choose_spec⟩
  · cases h
theorem fixC_of {α β : Type} {B : (α → Option β) → α → Option β} {x : α} {y : β} {n : Nat} (h : recN B n x = some y) (hu : ∀ m z, recN B m x = some z → z = y) : fixC B x = some y := by
  have hx : ∃ n e, recN B n x = some e := ⟨n, y, h⟩
  unfold fixC
  rw [dif_pos hx, hu _ _ hx.choose_spec.choose_spec]
theorem has_fix {P : Program} {f : FuncId} {α β : Type} {B : (α → Option β) → α → Option β} {enc : α → List V} {er : β → V} (h : ∀ n, Has P f (conF (recN B n) enc er)) : Has P f (conF (fixC B) enc er) := by
  refine ⟨?_, (h 0).2⟩
  intro x
  rcases x with ⟨a, r⟩
  intro F w vs hF hv hok
  obtain ⟨n, hn⟩ := fixC_ex hok
  exact (h n).1 (a, r) F w vs hF hv hn

/-- Elements that are no records. -/
def eI (k : IntKind) (n : Int) : List V := [.v (.int k n)]
def eB (b : Bool) : List V := [.v (.bool b)]
def eS {α : Type} (enc : α → List V) (l : List α) : List V := [.sl (recs enc l) l.length]

theorem e_some {A R : Type} {a : A} {J : A → Option R} {r : R} (h : (some a).bind J = some r) : J a = some r := h
theorem e_exit {S E R : Type} {step : S → Option (S ⊕ E)} {K : E → Option R} {n : Nat} {e : E} {r : R} (h : (some (Sum.inr e : S ⊕ E)).bind (nextF step K n) = some r) : K e = some r := h
end Go.Ev
/- Steps by themselves. -/
set_option linter.unusedVariables false
namespace Go.Ev
theorem fz_len {α : Type} {enc : α → List V} {s : Nat} (he : ∀ a, (enc a).length = s) (l : List α) : l.length * s = (recs enc l).length := (recs_length he l).symm
theorem set_len {α : Type} {l l' : List α} {j : Int} {x : α} (h : set? l j x = some l') : l'.length = l.length := by
  unfold set? at h
  split at h
  · cases h; simp
  · cases h
theorem lev_len {cs0 : List V} {n m : Nat} (h : n = m) : LeV (.sl cs0 n) (.sl cs0 m) := lev_eq (by rw [h])
/-- What is handed to a function. -/
theorem lv1 {cs0 ds0 : List V} (c : LeVs cs0 ds0 := by (first | exact levs_eq rfl | repeat' (first | exact lev_eq rfl | exact lev_nil | exact lev_len (set_len (by assumption)).symm | exact lev_len ((set_len (by assumption)).trans (set_len (by assumption))).symm | refine lev_tup ?_ | refine lev_agg ?_ | exact levs_eq rfl | refine levs_cons ?_ ?_))) : LeVs cs0 ds0 := c
/-- All steps that no fact is needed for. -/
theorem st1 {p q : Prop} (h : q) (c : q → p := by (intro h; (repeat (first | ((with_reducible refine go_ret ?_)) | ((with_reducible refine go_put ?_); (conv => arg 1; whnf)) | ((with_reducible apply go_get); exact rfl; (conv => arg 1; whnf)) | ((with_reducible refine go_req ?_ ?_); exact (of_decide_eq_true rfl); (conv => arg 1; whnf)) | ((with_reducible refine go_req ?_ ?_); exact trivial; (conv => arg 1; whnf)) | ((with_reducible refine go_req ?_ ?_); exact rfl; (conv => arg 1; whnf)) | ((with_reducible refine go_req ?_ ?_); exact (rlen (by intro _; rfl) _); (conv => arg 1; whnf)) | ((with_reducible refine go_req ?_ ?_); exact ⟨rlen (by intro _; rfl) _, by decide⟩; (conv => arg 1; whnf)) | ((with_reducible refine go_reqP ?_ ?_); exact rfl; (conv => arg 1; whnf)) | ((with_reducible refine ops_nil ?_)) | ((with_reducible refine ops_cons ?_ ?_ ?_); exact rfl; exact rfl; (conv => arg 1; whnf)) | ((with_reducible apply ops_take); exact rfl; exact rfl; exact rfl; exact rfl; (conv => arg 1; whnf)) | ((with_reducible apply ops_skip); exact rfl; exact rfl; exact rfl; exact rfl) | ((with_reducible apply ops_skipU); exact rfl; exact rfl; exact rfl; exact rfl) | ((with_reducible refine goT_ret ?_)) | ((with_reducible refine goT_put ?_); (conv => arg 1; whnf)) | ((with_reducible apply goT_get); exact rfl; (conv => arg 1; whnf)) | ((with_reducible refine goT_req ?_ ?_); exact (of_decide_eq_true rfl); (conv => arg 1; whnf)) | ((with_reducible refine goT_req ?_ ?_); exact trivial; (conv => arg 1; whnf)) | ((with_reducible refine goT_req ?_ ?_); exact rfl; (conv => arg 1; whnf)) | ((with_reducible refine goT_req ?_ ?_); exact (rlen (by intro _; rfl) _); (conv => arg 1; whnf)) | ((with_reducible refine goT_req ?_ ?_); exact ⟨rlen (by intro _; rfl) _, by decide⟩; (conv => arg 1; whnf)) | ((with_reducible refine goT_reqP ?_ ?_); exact rfl; (conv => arg 1; whnf)) | ((with_reducible refine d_step ?_ ?_); kernel_rfl) | ((with_reducible refine d_nil ?_)) | ((with_reducible refine d_cons ?_ ?_ ?_); exact rfl; exact rfl; (conv => arg 1; whnf)) | ((conv => arg 6; whnf); (with_reducible refine d_cons ?_ ?_ ?_); exact rfl; exact rfl; (conv => arg 1; whnf)) | ((conv => arg 5; whnf); (with_reducible refine ops_cons ?_ ?_ ?_); exact rfl; exact rfl; (conv => arg 1; whnf)) | ((with_reducible apply d_take); exact rfl; exact rfl; exact rfl; exact rfl; (conv => arg 1; whnf)) | ((with_reducible apply d_skip); exact rfl; exact rfl; exact rfl; exact rfl; (first | exact rfl | kernel_rfl)) | ((with_reducible apply d_skipU); exact rfl; exact rfl; exact rfl; exact rfl; (first | exact rfl | kernel_rfl)) | ((conv => arg 6; whnf); (with_reducible apply d_take); exact rfl; exact rfl; exact rfl; exact rfl; (conv => arg 1; whnf)) | ((conv => arg 6; whnf); (with_reducible apply d_skip); exact rfl; exact rfl; exact rfl; exact rfl; (first | exact rfl | kernel_rfl)) | ((with_reducible refine st_regionD ?_ ?_); kernel_rfl; (conv => arg 6; whnf)) | ((with_reducible refine st_seq ?_)) | ((with_reducible refine st_region rfl rfl ?_); (conv => arg 5; whnf)) | ((with_reducible refine st_block ?_)) | ((with_reducible refine st_skip ?_)) | ((with_reducible refine st_exit ?_)) | ((with_reducible refine st_ret ?_)) | ((with_reducible refine k_seq ?_)) | ((with_reducible refine k_seqX ?_)) | ((with_reducible refine k_seqR ?_)) | ((with_reducible refine k_block ?_)) | ((with_reducible refine k_blockX ?_)) | ((with_reducible refine k_blockY ?_ ?_); exact rfl) | ((with_reducible refine k_blockR ?_)) | ((with_reducible refine k_loopX ?_)) | ((with_reducible refine k_loopR ?_)) | ((with_reducible refine st_condT ?_ ?_); exact rfl) | ((with_reducible refine st_condF ?_ ?_); exact rfl))); exact h)) : p := c h
/-- The end of a function. -/
theorem en1 {p : Prop} (c : p := by ((conv => whnf); (repeat (first | (refine And.intro (fz_len (by intro _; rfl) _) ?_; conv => whnf) | (refine And.intro (of_decide_eq_true rfl) ?_; conv => whnf))); repeat' (first | exact lev_eq rfl | exact lev_nil | refine lev_tup ?_ | refine lev_agg ?_ | exact levs_eq rfl | refine levs_cons ?_ ?_))) : p := c
theorem fz_len2 {α : Type} {enc : α → List V} {s : Nat} {l l' : List α} (h : l'.length = l.length) (he : ∀ a, (enc a).length = s) : l.length * s = (recs enc l').length := by rw [← h]; exact (recs_length he l').symm
/-- The end of a function that makes a list. -/
theorem en2 {p : Prop} (c : p := by ((conv => whnf); (first | exact Or.inl ⟨_, _, _, rfl, rfl, fz_len (by intro _; rfl) _, rfl⟩ | exact Or.inr ⟨rfl, rfl⟩))) : p := c
theorem ren_osl {r : List (Nat × Nat)} {b b' n n' : Nat} (h : look r b = some b') (hn : n = n') : renV r (.osl b n) = some (.osl b' n') := by
  subst hn
  simp [renV, renP, h]
/-- The slots, the boxes at a loop's head. -/
theorem sT {p : Prop} (c : p := by (repeat (first | exact trivial | refine And.intro (Or.inl rfl) ?_ | refine And.intro (Or.inl (ren_fn (by assumption) _)) ?_ | refine And.intro (Or.inl (ren_osl rfl (by first | exact set_len (by assumption) | exact (set_len (by assumption)).trans (set_len (by assumption))))) ?_ | refine And.intro (Or.inr rfl) ?_))) : p := c
theorem sC {p : Prop} (c : p := by (repeat (first | exact trivial | refine And.intro (Or.inl rfl) ?_ | refine And.intro (Or.inl (ren_fn (by assumption) _)) ?_ | refine And.intro (Or.inl (ren_osl rfl (by first | exact set_len (by assumption) | exact (set_len (by assumption)).trans (set_len (by assumption))))) ?_ | refine And.intro (Or.inr rfl) ?_))) : p := c
theorem sS {p : Prop} (c : p := by (repeat (first | exact trivial | refine And.intro (Or.inl ⟨_, _, rfl, rfl, rfl⟩) ?_ | refine And.intro (Or.inr (Or.inl rfl)) ?_ | refine And.intro (Or.inr (Or.inr ⟨_, _, _, _, rfl, rfl, rfl, sC⟩)) ?_))) : p := c
end Go.Ev
/- What is handed to a law, read as values without memory. -/
set_option linter.unusedVariables false
set_option linter.unusedSimpArgs false
namespace Go.Ev
open Go.RowKit Go.ChangeShapes

def All2 {α β : Type} (R : α → β → Prop) : List α → List β → Prop
  | [], [] => True
  | a :: l0, b :: m0 => R a b ∧ All2 R l0 m0
  | _, _ => False

theorem all2_1 {α β : Type} {R : α → β → Prop} {x0 : α} {ls : List β} (h : All2 R [x0] ls) : ∃ a0, ls = [a0] ∧ R x0 a0 := by
  match ls, h with
  | [a0], ⟨h0, _⟩ => exact ⟨a0, rfl, h0⟩

theorem all2_2 {α β : Type} {R : α → β → Prop} {x0 x1 : α} {ls : List β} (h : All2 R [x0, x1] ls) : ∃ a0 a1, ls = [a0, a1] ∧ R x0 a0 ∧ R x1 a1 := by
  match ls, h with
  | [a0, a1], ⟨h0, h1, _⟩ => exact ⟨a0, a1, rfl, h0, h1⟩

theorem all2_3 {α β : Type} {R : α → β → Prop} {x0 x1 x2 : α} {ls : List β} (h : All2 R [x0, x1, x2] ls) : ∃ a0 a1 a2, ls = [a0, a1, a2] ∧ R x0 a0 ∧ R x1 a1 ∧ R x2 a2 := by
  match ls, h with
  | [a0, a1, a2], ⟨h0, h1, h2, _⟩ => exact ⟨a0, a1, a2, rfl, h0, h1, h2⟩

theorem all2_4 {α β : Type} {R : α → β → Prop} {x0 x1 x2 x3 : α} {ls : List β} (h : All2 R [x0, x1, x2, x3] ls) : ∃ a0 a1 a2 a3, ls = [a0, a1, a2, a3] ∧ R x0 a0 ∧ R x1 a1 ∧ R x2 a2 ∧ R x3 a3 := by
  match ls, h with
  | [a0, a1, a2, a3], ⟨h0, h1, h2, h3, _⟩ => exact ⟨a0, a1, a2, a3, rfl, h0, h1, h2, h3⟩

theorem all2_5 {α β : Type} {R : α → β → Prop} {x0 x1 x2 x3 x4 : α} {ls : List β} (h : All2 R [x0, x1, x2, x3, x4] ls) : ∃ a0 a1 a2 a3 a4, ls = [a0, a1, a2, a3, a4] ∧ R x0 a0 ∧ R x1 a1 ∧ R x2 a2 ∧ R x3 a3 ∧ R x4 a4 := by
  match ls, h with
  | [a0, a1, a2, a3, a4], ⟨h0, h1, h2, h3, h4, _⟩ => exact ⟨a0, a1, a2, a3, a4, rfl, h0, h1, h2, h3, h4⟩

theorem all2_6 {α β : Type} {R : α → β → Prop} {x0 x1 x2 x3 x4 x5 : α} {ls : List β} (h : All2 R [x0, x1, x2, x3, x4, x5] ls) : ∃ a0 a1 a2 a3 a4 a5, ls = [a0, a1, a2, a3, a4, a5] ∧ R x0 a0 ∧ R x1 a1 ∧ R x2 a2 ∧ R x3 a3 ∧ R x4 a4 ∧ R x5 a5 := by
  match ls, h with
  | [a0, a1, a2, a3, a4, a5], ⟨h0, h1, h2, h3, h4, h5, _⟩ => exact ⟨a0, a1, a2, a3, a4, a5, rfl, h0, h1, h2, h3, h4, h5⟩

theorem all2_7 {α β : Type} {R : α → β → Prop} {x0 x1 x2 x3 x4 x5 x6 : α} {ls : List β} (h : All2 R [x0, x1, x2, x3, x4, x5, x6] ls) : ∃ a0 a1 a2 a3 a4 a5 a6, ls = [a0, a1, a2, a3, a4, a5, a6] ∧ R x0 a0 ∧ R x1 a1 ∧ R x2 a2 ∧ R x3 a3 ∧ R x4 a4 ∧ R x5 a5 ∧ R x6 a6 := by
  match ls, h with
  | [a0, a1, a2, a3, a4, a5, a6], ⟨h0, h1, h2, h3, h4, h5, h6, _⟩ => exact ⟨a0, a1, a2, a3, a4, a5, a6, rfl, h0, h1, h2, h3, h4, h5, h6⟩

theorem all2_8 {α β : Type} {R : α → β → Prop} {x0 x1 x2 x3 x4 x5 x6 x7 : α} {ls : List β} (h : All2 R [x0, x1, x2, x3, x4, x5, x6, x7] ls) : ∃ a0 a1 a2 a3 a4 a5 a6 a7, ls = [a0, a1, a2, a3, a4, a5, a6, a7] ∧ R x0 a0 ∧ R x1 a1 ∧ R x2 a2 ∧ R x3 a3 ∧ R x4 a4 ∧ R x5 a5 ∧ R x6 a6 ∧ R x7 a7 := by
  match ls, h with
  | [a0, a1, a2, a3, a4, a5, a6, a7], ⟨h0, h1, h2, h3, h4, h5, h6, h7, _⟩ => exact ⟨a0, a1, a2, a3, a4, a5, a6, a7, rfl, h0, h1, h2, h3, h4, h5, h6, h7⟩

theorem all2_9 {α β : Type} {R : α → β → Prop} {x0 x1 x2 x3 x4 x5 x6 x7 x8 : α} {ls : List β} (h : All2 R [x0, x1, x2, x3, x4, x5, x6, x7, x8] ls) : ∃ a0 a1 a2 a3 a4 a5 a6 a7 a8, ls = [a0, a1, a2, a3, a4, a5, a6, a7, a8] ∧ R x0 a0 ∧ R x1 a1 ∧ R x2 a2 ∧ R x3 a3 ∧ R x4 a4 ∧ R x5 a5 ∧ R x6 a6 ∧ R x7 a7 ∧ R x8 a8 := by
  match ls, h with
  | [a0, a1, a2, a3, a4, a5, a6, a7, a8], ⟨h0, h1, h2, h3, h4, h5, h6, h7, h8, _⟩ => exact ⟨a0, a1, a2, a3, a4, a5, a6, a7, a8, rfl, h0, h1, h2, h3, h4, h5, h6, h7, h8⟩

theorem all2_10 {α β : Type} {R : α → β → Prop} {x0 x1 x2 x3 x4 x5 x6 x7 x8 x9 : α} {ls : List β} (h : All2 R [x0, x1, x2, x3, x4, x5, x6, x7, x8, x9] ls) : ∃ a0 a1 a2 a3 a4 a5 a6 a7 a8 a9, ls = [a0, a1, a2, a3, a4, a5, a6, a7, a8, a9] ∧ R x0 a0 ∧ R x1 a1 ∧ R x2 a2 ∧ R x3 a3 ∧ R x4 a4 ∧ R x5 a5 ∧ R x6 a6 ∧ R x7 a7 ∧ R x8 a8 ∧ R x9 a9 := by
  match ls, h with
  | [a0, a1, a2, a3, a4, a5, a6, a7, a8, a9], ⟨h0, h1, h2, h3, h4, h5, h6, h7, h8, h9, _⟩ => exact ⟨a0, a1, a2, a3, a4, a5, a6, a7, a8, a9, rfl, h0, h1, h2, h3, h4, h5, h6, h7, h8, h9⟩

theorem all2_11 {α β : Type} {R : α → β → Prop} {x0 x1 x2 x3 x4 x5 x6 x7 x8 x9 x10 : α} {ls : List β} (h : All2 R [x0, x1, x2, x3, x4, x5, x6, x7, x8, x9, x10] ls) : ∃ a0 a1 a2 a3 a4 a5 a6 a7 a8 a9 a10, ls = [a0, a1, a2, a3, a4, a5, a6, a7, a8, a9, a10] ∧ R x0 a0 ∧ R x1 a1 ∧ R x2 a2 ∧ R x3 a3 ∧ R x4 a4 ∧ R x5 a5 ∧ R x6 a6 ∧ R x7 a7 ∧ R x8 a8 ∧ R x9 a9 ∧ R x10 a10 := by
  match ls, h with
  | [a0, a1, a2, a3, a4, a5, a6, a7, a8, a9, a10], ⟨h0, h1, h2, h3, h4, h5, h6, h7, h8, h9, h10, _⟩ => exact ⟨a0, a1, a2, a3, a4, a5, a6, a7, a8, a9, a10, rfl, h0, h1, h2, h3, h4, h5, h6, h7, h8, h9, h10⟩

theorem all2_12 {α β : Type} {R : α → β → Prop} {x0 x1 x2 x3 x4 x5 x6 x7 x8 x9 x10 x11 : α} {ls : List β} (h : All2 R [x0, x1, x2, x3, x4, x5, x6, x7, x8, x9, x10, x11] ls) : ∃ a0 a1 a2 a3 a4 a5 a6 a7 a8 a9 a10 a11, ls = [a0, a1, a2, a3, a4, a5, a6, a7, a8, a9, a10, a11] ∧ R x0 a0 ∧ R x1 a1 ∧ R x2 a2 ∧ R x3 a3 ∧ R x4 a4 ∧ R x5 a5 ∧ R x6 a6 ∧ R x7 a7 ∧ R x8 a8 ∧ R x9 a9 ∧ R x10 a10 ∧ R x11 a11 := by
  match ls, h with
  | [a0, a1, a2, a3, a4, a5, a6, a7, a8, a9, a10, a11], ⟨h0, h1, h2, h3, h4, h5, h6, h7, h8, h9, h10, h11, _⟩ => exact ⟨a0, a1, a2, a3, a4, a5, a6, a7, a8, a9, a10, a11, rfl, h0, h1, h2, h3, h4, h5, h6, h7, h8, h9, h10, h11⟩

/-- The cells of a value of a type. -/
def Typ (P : Program) : Nat → TypeId → List V → Prop
  | 0, _, _ => False
  | n + 1, t, vs => match P.underlying t with
    | some .bool => ∃ b, vs = [.v (.bool b)]
    | some (.int k) => ∃ i, vs = [.v (.int k i)] ∧ (Lit.int k i).wf = true
    | some .string => ∃ s : ByteArray, vs = [.v (.string s)] ∧ s.size ≤ reachBytes
    | some (.slice e) => ∃ ls : List (List V), vs = [.sl ls.flatten ls.length] ∧ (∀ l ∈ ls, Typ P n e l) ∧ ls.length * P.bytesOf e ≤ reachBytes
    | some (.struct fs) => ∃ ls : List (List V), vs = ls.flatten ∧ All2 (fun (f : Field) l => Typ P n f.type l) fs.toList ls
    | some (.array k e) => ∃ ls : List (List V), vs = ls.flatten ∧ ls.length = k ∧ ∀ l ∈ ls, Typ P n e l
    | _ => False

section
variable {P : Program} {H : Type} {enc : TypeId × Value → H} {W : World}

theorem cells?_eq {g o n : Nat} {l : List Value} (h : W.cells? 0 ⟨g, o, none⟩ n = some l) : ((cellsAt W.heap g).drop o).take n = l ∧ l.length = n := by
  simp only [World.cells?, Nat.zero_le, if_true] at h
  obtain ⟨h1, h2⟩ := mapM_get (f := fun i => W.cell? (Addr.add ⟨g, o, none⟩ i)) h
  have hl : l.length = n := by rw [← h1]; simp
  refine ⟨?_, hl⟩
  apply List.ext_getElem?
  intro i
  by_cases hi : i < n
  · rw [List.getElem?_take, if_pos hi, List.getElem?_drop]
    obtain ⟨v, hv1, hv2⟩ := h2 i i (by simp [hi])
    rw [hv1]
    have e : Addr.add ⟨g, o, none⟩ i = ⟨g, o + i, none⟩ := by
      unfold Addr.add
      split
      · next e => subst e; rfl
      · rfl
    rw [e] at hv2
    unfold World.cell? at hv2
    unfold cellsAt
    split at hv2
    · next c _ _ hh => simp at hv2; simp [hh, hv2]
    · cases hv2
  · rw [List.getElem?_eq_none (by rw [List.length_take]; omega), List.getElem?_eq_none (by omega)]

theorem cells?_lt {g o n : Nat} {l : List Value} (h : W.cells? 0 ⟨g, o, none⟩ n = some l) (hn : 0 < n) : g < W.heap.size := by
  obtain ⟨h1, h2⟩ := cells?_eq h
  refine Decidable.byContradiction fun hc => ?_
  have : cellsAt W.heap g = [] := by unfold cellsAt; rw [Array.getElem?_eq_none (by omega)]
  rw [this] at h1
  simp at h1
  subst h1
  simp at h2
  omega

theorem RCs_append_iff {F : FZ} {Hp : Array Obj} {one : Bool} {cs ds : List V} {xs ys : List Value} (h : RCs F Hp one cs xs) (k : RCs F Hp one ds ys) : RCs F Hp one (cs ++ ds) (xs ++ ys) := RCs_append h k

theorem weightsAll_mem {p : Nat → Bool} {e : TypeId} : ∀ {ds : List (DataW H)}, (DataW.weightsAll P e ds).all p = true → ∀ d ∈ ds, (d.weights P e).all p = true
  | [], _, d, h => by cases h
  | d0 :: ds, h, d, hd => by
    simp only [DataW.weightsAll, List.all_append, Bool.and_eq_true] at h
    cases hd with
    | head => exact h.1
    | tail _ hd => exact weightsAll_mem h.2 d hd

theorem weightsEach_get {p : Nat → Bool} : ∀ {ts : List TypeId} {ds : List (DataW H)}, (DataW.weightsEach P ts ds).all p = true → ∀ (i : Nat) (t : TypeId) (d : DataW H), ts[i]? = some t → ds[i]? = some d → (d.weights P t).all p = true
  | [], _, _, i, t, d, ht, _ => by simp at ht
  | _ :: _, [], _, i, t, d, _, hd => by simp at hd
  | t0 :: ts, d0 :: ds, h, i, t, d, ht, hd => by
    simp only [DataW.weightsEach, List.all_append, Bool.and_eq_true] at h
    cases i with
    | zero => simp at ht hd; subst ht hd; exact h.1
    | succ i => exact weightsEach_get h.2 i t d (by simpa using ht) (by simpa using hd)

theorem pieces {F : FZ} {Hp : Array Obj} {size : Field → Nat} {Q : Field → List V → Prop} : ∀ (fs : List Field) (off : Nat) (cs : List Value), (∀ (j : Nat) (f : Field), fs[j]? = some f → f.offset = off + ((fs.take j).map size).sum) →
    (∀ (j : Nat) (f : Field), fs[j]? = some f → ∃ vs, RCs F Hp true vs ((cs.drop f.offset).take (size f)) ∧ Q f vs) → off + (fs.map size).sum = cs.length → ∃ ls : List (List V), RCs F Hp true ls.flatten (cs.drop off) ∧ All2 Q fs ls
  | [], off, cs, _, _, hl => by
    refine ⟨[], ?_, trivial⟩
    rw [List.drop_of_length_le (by simp at hl; omega)]
    trivial
  | f :: fs, off, cs, ho, hp, hl => by
    obtain ⟨vs, h1, h2⟩ := hp 0 f rfl
    have ho0 : f.offset = off := by have := ho 0 f rfl; simpa using this
    rw [ho0] at h1
    obtain ⟨ls, h3, h4⟩ := pieces fs (off + size f) cs (by
      intro j f' hf
      have := ho (j + 1) f' (by simpa using hf)
      rw [this, List.take_succ_cons, List.map_cons, List.sum_cons]
      omega) (fun j f' hf => hp (j + 1) f' (by simpa using hf)) (by simp at hl; omega)
    refine ⟨vs :: ls, ?_, h2, h4⟩
    rw [List.flatten_cons]
    have : cs.drop off = (cs.drop off).take (size f) ++ cs.drop (off + size f) := by rw [← List.drop_drop, List.take_append_drop]
    rw [this]
    exact RCs_append h1 h3

theorem rows_RCs {F : FZ} {Hp : Array Obj} {L : List Value} {size : Nat} {Q : List V → Prop} : ∀ (n : Nat), (∀ i, i < n → ∃ vs, RCs F Hp true vs ((L.drop (i * size)).take size) ∧ Q vs) →
    ∃ ls : List (List V), ls.length = n ∧ RCs F Hp true ls.flatten (L.take (n * size)) ∧ ∀ l ∈ ls, Q l
  | 0, _ => ⟨[], rfl, by simp [RCs], by simp⟩
  | n + 1, h => by
    obtain ⟨ls, h1, h2, h3⟩ := rows_RCs n fun i hi => h i (by omega)
    obtain ⟨vs, h4, h5⟩ := h n (by omega)
    refine ⟨ls ++ [vs], by simp [h1], ?_, ?_⟩
    · rw [List.flatten_append, Nat.add_mul, Nat.one_mul, List.take_add]
      simpa using RCs_append h2 h4
    · intro l hl
      rcases List.mem_append.1 hl with hl | hl
      · exact h3 l hl
      · simp at hl; subst hl; exact h5

/-- Types without pointers, maps, functions; structs and arrays lie cell by cell. -/
def plainT (P : Program) : Nat → TypeId → Bool
  | 0, _ => false
  | n + 1, t => match P.underlying t with
    | some .bool => true
    | some (.int _) => true
    | some .string => true
    | some (.slice e) => plainT P n e
    | some (.struct fs) => fs.toList.all (fun f => plainT P n f.type) && P.cellsOf t == (fs.toList.map fun f => P.cellsOf f.type).sum &&
        (List.range fs.toList.length).all fun j => match fs.toList[j]? with | some f => f.offset == ((fs.toList.take j).map fun f => P.cellsOf f.type).sum | none => true
    | some (.array k e) => plainT P n e && P.cellsOf t == k * P.cellsOf e
    | _ => false

theorem RCs_lit {v : Value} (h : v.oneCell' = true) : RCs (fun g _ => g < W.heap.size) W.heap true [.v v] [v] := ⟨⟨rfl, fun _ => h⟩, trivial⟩

theorem mapM_opt {α β : Type} {f : α → Option β} : ∀ {l : List α} {l' : List β}, l.mapM f = some l' → l.length = l'.length ∧ ∀ (i : Nat) (a : α), l[i]? = some a → ∃ b, l'[i]? = some b ∧ f a = some b := mapM_get

/-- WHAT CAN BE READ AS DATA HAS CELLS OF ITS TYPE. -/
theorem trod_typ {sp : Nat → Bool} {held : Bool} : ∀ (k : Nat) (t : TypeId), plainT P k t = true → ∀ (fuel : Nat) (cs : List Value) (x : DataW H × List MemPlace),
    DataW.trod enc P W 0 sp held fuel t cs = some x → (x.1.weights P t).all (· ≤ reachBytes) = true → ∃ vs, RCs (fun g _ => g < W.heap.size) W.heap true vs cs ∧ Typ P k t vs
  | 0, t, hp, _, _, _, _, _ => by cases hp
  | k + 1, t, hp, fuel, cs, x, h, hw => by
    simp only [plainT] at hp
    split at hp
    · next ht =>
      obtain ⟨b, rfl, rfl⟩ := DataW.trod_bool ht h
      simp only [Typ, ht]
      exact ⟨_, RCs_lit rfl, b, rfl⟩
    · next kk ht =>
      obtain ⟨n, rfl, rfl, hwf⟩ := DataW.trod_int ht h
      simp only [Typ, ht]
      exact ⟨_, RCs_lit rfl, n, rfl, hwf⟩
    · next ht =>
      obtain ⟨s, rfl, rfl, hs⟩ := DataW.trod_string ht h
      simp only [Typ, ht]
      refine ⟨_, RCs_lit rfl, s, rfl, ?_⟩
      simp [DataW.weights] at hw
      exact hw
    · next e ht =>
      simp only [Typ, ht]
      rcases DataW.trod_slice ht h with ⟨rfl, rfl⟩ | ⟨a, len, cap, elems, rest, n, rfl, rfl, rfl, hb, hlc, hm, hlen, hel, _, _⟩
      · exact ⟨[.sl [] 0], ⟨⟨⟨none, 0, rfl, Nat.le_refl _, Nat.zero_le _, .inl rfl⟩, fun _ => rfl⟩, trivial⟩, [], rfl, by simp, by simp⟩
      · simp only [DataW.weights, ht, List.all_cons, Bool.and_eq_true, decide_eq_true_eq, List.all_append, List.length_map] at hw
        obtain ⟨hw1, hw2, _⟩ := hw
        have key : ∀ i, i < len → ∃ ecs y, W.cells? 0 (a.add (i * P.cellsOf e)) (P.cellsOf e) = some ecs ∧ DataW.trod enc P W 0 sp held n e ecs = some y ∧ (y.1.weights P e).all (· ≤ reachBytes) = true := by
          intro i hi
          have h1 := hel i hi
          have hie : i < elems.length := by omega
          rw [List.getElem?_eq_getElem hie, Option.bind_eq_some_iff] at h1
          obtain ⟨ecs, h2, h3⟩ := h1
          exact ⟨ecs, _, h2, h3, weightsAll_mem hw2 _ (List.mem_map.2 ⟨_, List.getElem_mem hie, rfl⟩)⟩
        obtain ⟨g, off, spot⟩ := a
        have hbound : len * P.bytesOf e ≤ reachBytes := Nat.le_trans (Nat.mul_le_mul_right _ (by omega)) hw1
        by_cases hz : len * P.cellsOf e = 0
        · -- no cells
          have : ∃ ls : List (List V), ls.length = len ∧ ls.flatten = [] ∧ ∀ l ∈ ls, Typ P k e l := by
            refine ⟨List.replicate len [], by simp, by simp, ?_⟩
            intro l hl
            obtain ⟨hl1, rfl⟩ := List.mem_replicate.1 hl
            have hlen0 : 0 < len := by omega
            have hc0 : P.cellsOf e = 0 := by
              rcases Nat.mul_eq_zero.1 hz with h | h
              · omega
              · exact h
            obtain ⟨ecs, y, h1, h2, h3⟩ := key 0 hlen0
            obtain ⟨vs, h4, h5⟩ := trod_typ k e hp n ecs y h2 h3
            have : ecs = [] := by
              simp [World.cells?, hc0] at h1
              exact h1
            subst this
            have := RCs_length h4
            simp at this
            subst this
            exact h5
          obtain ⟨ls, l1, l2, l3⟩ := this
          exact ⟨[.sl ls.flatten ls.length], ⟨⟨⟨_, cap, by rw [l1], by omega, hm, .inl l2⟩, fun _ => rfl⟩, trivial⟩, ls, rfl, l3, by rw [l1]; exact hbound⟩
        · have hpos : 0 < len ∧ 0 < P.cellsOf e := ⟨Nat.pos_of_ne_zero fun e0 => hz (by rw [e0, Nat.zero_mul]), Nat.pos_of_ne_zero fun e0 => hz (by rw [e0, Nat.mul_zero])⟩
          have hspot : spot = none := by
            obtain ⟨ecs, y, h1, _⟩ := key 0 hpos.1
            rw [Nat.zero_mul] at h1
            simp only [World.cells?, Nat.zero_le, if_true] at h1
            obtain ⟨_, h2⟩ := mapM_opt (f := fun i => W.cell? ((Addr.add ⟨g, off, spot⟩ 0).add i)) h1
            obtain ⟨v, _, h3⟩ := h2 0 0 (by simp [hpos.2])
            cases spot with
            | none => rfl
            | some q =>
              unfold World.cell? at h3
              split at h3
              · simp [Addr.add] at h3
              · cases h3
          subst hspot
          have hadd : ∀ i, Addr.add ⟨g, off, none⟩ (i * P.cellsOf e) = ⟨g, off + i * P.cellsOf e, none⟩ := by
            intro i
            unfold Addr.add
            split
            · next e0 => rw [e0]; rfl
            · rfl
          have hlt : g < W.heap.size := by
            obtain ⟨ecs, y, h1, _⟩ := key 0 hpos.1
            rw [hadd] at h1
            exact cells?_lt h1 hpos.2
          obtain ⟨ls, l1, l2, l3⟩ := rows_RCs (F := fun g _ => g < W.heap.size) (Hp := W.heap) (L := (cellsAt W.heap g).drop off) (size := P.cellsOf e) (Q := Typ P k e) len (by
            intro i hi
            obtain ⟨ecs, y, h1, h2, h3⟩ := key i hi
            obtain ⟨vs, h4, h5⟩ := trod_typ k e hp n ecs y h2 h3
            rw [hadd] at h1
            obtain ⟨h6, _⟩ := cells?_eq h1
            refine ⟨vs, ?_, h5⟩
            rw [List.drop_drop, h6]
            exact h4)
          have hfl : ls.flatten.length ≤ len * P.cellsOf e := by
            have := RCs_length l2
            rw [List.length_take] at this
            omega
          refine ⟨[.sl ls.flatten ls.length], ⟨⟨⟨_, cap, by rw [l1], by omega, hm, .inr ⟨g, off, rfl, fun _ _ => hlt, ?_⟩⟩, fun _ => rfl⟩, trivial⟩, ls, rfl, l3, by rw [l1]; exact hbound⟩
          have e1 := RCs_length l2
          have : ((cellsAt W.heap g).drop off).take ls.flatten.length = ((cellsAt W.heap g).drop off).take (len * P.cellsOf e) := by
            rw [e1, List.length_take]
            rcases Nat.le_total (len * P.cellsOf e) ((cellsAt W.heap g).drop off).length with hh | hh
            · rw [Nat.min_eq_left hh]
            · rw [Nat.min_eq_right hh, List.take_of_length_le (Nat.le_refl _), List.take_of_length_le hh]
          rw [this]
          exact l2
    · next fs ht =>
      simp only [Typ, ht]
      rw [Bool.and_eq_true, Bool.and_eq_true] at hp
      obtain ⟨⟨hp1, hp2⟩, hp3⟩ := hp
      obtain ⟨xs, n, rfl, rfl, hlen, hxs, hf⟩ := DataW.trod_struct ht h
      simp only [DataW.weights, ht] at hw
      obtain ⟨ls, l1, l2⟩ := pieces (F := fun g _ => g < W.heap.size) (Hp := W.heap) (size := fun f => P.cellsOf f.type) (Q := fun f l => Typ P k f.type l) fs.toList 0 cs (by
        intro j f hj
        have hjl : j < fs.toList.length := (List.getElem?_eq_some_iff.1 hj).1
        have := List.all_eq_true.1 hp3 j (List.mem_range.2 hjl)
        simp only [hj, beq_iff_eq] at this
        omega) (by
        intro j f hj
        have hj' : fs[j]? = some f := by rw [← Array.getElem?_toList]; exact hj
        have h1 := hf j f hj'
        have hjx : j < xs.length := by rw [hxs]; have := (List.getElem?_eq_some_iff.1 hj).1; simpa using this
        rw [List.getElem?_eq_getElem hjx] at h1
        refine trod_typ k f.type (List.all_eq_true.1 hp1 f (List.mem_of_getElem? hj)) n _ _ h1 ?_
        exact weightsEach_get hw j f.type _ (by simp [hj]) (by simp [hjx])) (by
        rw [hlen, beq_iff_eq.1 hp2]; omega)
      exact ⟨ls.flatten, by simpa using l1, ls, rfl, l2⟩
    · next m e ht =>
      simp only [Typ, ht]
      rw [Bool.and_eq_true] at hp
      obtain ⟨hp1, hp2⟩ := hp
      obtain ⟨xs, n, rfl, rfl, hlen, hxs, hf⟩ := DataW.trod_array ht h
      simp only [DataW.weights, ht] at hw
      obtain ⟨ls, l1, l2, l3⟩ := rows_RCs (F := fun g _ => g < W.heap.size) (Hp := W.heap) (L := cs) (size := P.cellsOf e) (Q := Typ P k e) m (by
        intro i hi
        have h1 := hf i hi
        have hix : i < xs.length := by omega
        rw [List.getElem?_eq_getElem hix] at h1
        exact trod_typ k e hp1 n _ _ h1 (weightsAll_mem hw _ (List.mem_map.2 ⟨_, List.getElem_mem hix, rfl⟩)))
      refine ⟨ls.flatten, ?_, ls, rfl, l1, l3⟩
      rw [beq_iff_eq.1 hp2] at hlen
      rwa [List.take_of_length_le (by omega)] at l2
    · cases hp
end

/-- A value out of its cells. -/
def typeV (P : Program) (t : TypeId) (vs : List V) : V := match P.underlying t with
  | some (.struct _) => .agg vs
  | some (.array _ _) => .agg vs
  | _ => (vs[0]?).getD .top

section
variable {P : Program} {H : Type} {enc : TypeId × Value → H} {W W' : World}

theorem cells_agg {v c : Value} (h : v.cells.toList = [c]) : v = c ∨ v = .agg #[c] := by
  cases v with
  | agg cs =>
    right
    have : cs.toList = [c] := h
    rw [show cs = #[c] from Array.ext' this]
  | _ => left; simpa [Value.cells] using h

theorem typeV_RC {F : FZ} {Hp : Array Obj} {r : Reach} {b0 k : Nat} {t : TypeId} {v : Value} {vs : List V} (hval : Value.okWide P W r b0 t v) (hr : RCs F Hp true vs v.cells.toList) (ht : Typ P k t vs) : RC F Hp (typeV P t vs) v := by
  cases k with
  | zero => exact ht.elim
  | succ k =>
    have single : ∀ c, vs = [c] → typeV P t vs = c → (∀ x, ¬ Value.okWide P W r b0 t (.agg x)) → RC F Hp (typeV P t vs) v := by
      intro c hc htv hno
      subst hc
      rw [htv]
      obtain ⟨x, hx⟩ : ∃ x, v.cells.toList = [x] := by
        have := RCs_length hr
        match hv : v.cells.toList with
        | [x] => exact ⟨x, rfl⟩
        | [] => rw [hv] at this; simp at this
        | _ :: _ :: _ => rw [hv] at this; simp at this
      rw [hx] at hr
      rcases cells_agg hx with rfl | rfl
      · exact hr.1.1
      · exact absurd hval (hno _)
    unfold Typ at ht
    split at ht
    · next hu =>
      obtain ⟨b, hb⟩ := ht
      exact single _ hb (by simp [typeV, hu, hb]) (by intro x; simp [Value.okWide, hu, Cell.okWide, Cell.ok])
    · next kk hu =>
      obtain ⟨i, hb, _⟩ := ht
      exact single _ hb (by simp [typeV, hu, hb]) (by intro x; simp [Value.okWide, hu, Cell.okWide, Cell.ok])
    · next hu =>
      obtain ⟨b, hb, _⟩ := ht
      exact single _ hb (by simp [typeV, hu, hb]) (by intro x; simp [Value.okWide, hu, Cell.okWide, Cell.ok])
    · next e hu =>
      obtain ⟨b, hb, _⟩ := ht
      exact single _ hb (by simp [typeV, hu, hb]) (by intro x; simp [Value.okWide, hu, Cell.okWide, Cell.ok])
    · next fs hu =>
      simp only [Value.okWide, hu] at hval
      obtain ⟨cs, rfl, _⟩ := hval
      simp only [typeV, hu]
      exact ⟨cs, rfl, hr⟩
    · next n e hu =>
      simp only [Value.okWide, hu] at hval
      obtain ⟨cs, rfl, _⟩ := hval
      simp only [typeV, hu]
      exact ⟨cs, rfl, hr⟩
    · exact ht.elim

/-- The arguments, one by one. -/
theorem args_typ {sp : Nat → Bool} {held : Bool} {r : Reach} {b0 k : Nat} : ∀ (ts : List TypeId) (args : List Value) (ds : List (DataW H)) (ps : List MemPlace), ts.all (plainT P k) = true → DataW.TrodAll enc P W 0 sp held ts args ds ps →
    (∀ (j : Nat) t v, ts[j]? = some t → args[j]? = some v → Value.okWide P W r b0 t v) → (DataW.weightsEach P ts ds).all (· ≤ reachBytes) = true →
    ∃ vss : List (List V), All2 (fun t vs => Typ P k t vs) ts vss ∧ RCs (fun g _ => g < W.heap.size) W.heap false ((ts.zip vss).map fun (t, vs) => typeV P t vs) args
  | [], args, ds, ps, _, h, _, _ => by
    obtain ⟨rfl, rfl, rfl⟩ := trodAll_nil h
    exact ⟨[], trivial, trivial⟩
  | t :: ts, args, ds, ps, hp, h, hval, hw => by
    obtain ⟨v, vs1, d, ds1, p, q, rfl, rfl, rfl, h1, h2⟩ := trodAll_cons h
    simp only [List.all_cons, Bool.and_eq_true] at hp
    simp only [DataW.weightsEach, List.all_append, Bool.and_eq_true] at hw
    obtain ⟨vss, a1, a2⟩ := args_typ ts vs1 ds1 q hp.2 h2 (fun j t v e1 e2 => hval (j + 1) t v (by simpa using e1) (by simpa using e2)) hw.2
    obtain ⟨fuel, hf⟩ := h1
    obtain ⟨vs, c1, c2⟩ := trod_typ k t hp.1 fuel _ _ hf hw.1
    exact ⟨vs :: vss, ⟨c2, a1⟩, ⟨typeV_RC (hval 0 t v rfl rfl) c1 c2, fun e => by cases e⟩, a2⟩

theorem stays_all (hl : laidOutB P = true) (hb : Below W.heap.size W W') {sp : Nat → Bool} : ∀ (ts : List TypeId) (args : List Value) (ds : List (DataW H)) (ps : List MemPlace), ts.all (fun t => P.readableRec t && decide (t < P.types.size)) = true →
    DataW.TrodAll enc P W 0 (fun _ => true) true ts args ds ps → (∀ p ∈ ps, p.block < W.heap.size) → (∀ p ∈ ps, sp p.block = true) → DataW.TrodAll enc P W' 0 sp true ts args ds ps
  | [], args, ds, ps, _, h, _, _ => by
    obtain ⟨rfl, rfl, rfl⟩ := trodAll_nil h
    exact trodAll_mk0
  | t :: ts, args, ds, ps, hr, h, hlt, hsp => by
    obtain ⟨v, vs1, d, ds1, p, q, rfl, rfl, rfl, h1, h2⟩ := trodAll_cons h
    simp only [List.all_cons, Bool.and_eq_true, decide_eq_true_eq] at hr
    refine trodAll_cons_mk ?_ (stays_all hl hb ts vs1 ds1 q hr.2 h2 (fun p hp => hlt p (by simp [hp])) (fun p hp => hsp p (by simp [hp])))
    exact WideElems.Trod_stays hl hr.1.1 hr.1.2 h1 (fun x hx => hb.same (hlt x (by simp [hx]))) (fun x hx => hsp x (by simp [hx]))

theorem trod_len {sp : Nat → Bool} {held : Bool} {b0 : Nat} : ∀ (ts : List TypeId) (args : List Value) (ds : List (DataW H)) (ps : List MemPlace), DataW.TrodAll enc P W b0 sp held ts args ds ps → ds.length = ts.length
  | [], args, ds, ps, h => by
    obtain ⟨rfl, rfl, rfl⟩ := trodAll_nil h
    rfl
  | t :: ts, args, ds, ps, h => by
    obtain ⟨v, vs1, d, ds1, p, q, rfl, rfl, rfl, h1, h2⟩ := trodAll_cons h
    simp [trod_len ts vs1 ds1 q h2]

/-- A LAW: WHATEVER THE INPUT: true, and what was there lies as it lay. -/
theorem lifted_law {C : Checked} {os : Os} {f : FuncId} {fn : Func} {s : ChangeSpec} {tb : TypeId} {k : Nat} {con : Con}
    (own : ownKnob C.prog.godebug = none) (started : os.Started) (noInit : C.prog.inits.idxOf? f = none) (hfn : C.prog.funcs[f]? = some fn)
    (witness : ∃ (w : World) (tape : Tape) (i : Input), w.os = os ∧ (w.forCall tape i).Shaped C.prog ∧ i.vars = [] ∧ Input.okWide C.prog (w.forCall tape i) .any w.heap.size f i ∧
      s.pre6 enc C.prog fn [] false (w.forCall tape i).memory i.args ∧ ({} : Assume).holds C.prog (lone (Frame.enter C.prog f i.args .normal) [] (w.forCall tape i)))
    (hvars : s.vars = []) (hspec : ∀ ds : List (DataW H), ds.length = fn.params.size → s.fn H ds = { results := [.lit (.bool true)], args := ds })
    (hres : fn.resultTypes = #[tb]) (hb : C.prog.underlying tb = some .bool) (hplain : fn.params.toList.all (plainT C.prog k) = true) (hl : laidOutB C.prog = true)
    (hread : fn.params.toList.all (fun t => C.prog.readableRec t && decide (t < C.prog.types.size)) = true)
    (hcon : Has C.prog f con) (hce : con.eff = none) (hcr : ∀ x, con.res x = .v (.bool true))
    (hargs : ∀ vss : List (List V), All2 (fun t vs => Typ C.prog k t vs) fn.params.toList vss → ∃ x, con.enc x = ((fn.params.toList.zip vss).map fun (t, vs) => typeV C.prog t vs) ∧ con.ok x)
    (hcf : con.frs = .keep := by rfl) :
    ReturnsInHanded {} C os f .any (s.pre6 enc C.prog fn [] false) (s.post enc C.prog fn false true false false) := by
  refine returnsInHanded_of_change_sized own started noInit hfn witness ?_
  intro W base args ds gs before hval hW _ hw _
  have hW' := hW
  obtain ⟨p, q, hA, hV, rfl, hfz, hnd⟩ := hW
  rw [hvars] at hV
  obtain ⟨rfl, rfl⟩ : gs = [] ∧ q = [] := by
    cases gs with
    | nil => exact ⟨rfl, hV⟩
    | cons _ _ => exact hV.elim
  have hlen := trod_len _ _ _ _ hA
  have hw1 : (DataW.weightsEach C.prog fn.params.toList ds).all (· ≤ reachBytes) = true := by
    have e : s.plain.varTypes C.prog = [] := by simp [ChangeSpec.plain, DataSpec.varTypes, hvars]
    rw [e, List.append_nil, List.append_nil] at hw
    exact hw
  obtain ⟨vss, a1, a2⟩ := args_typ fn.params.toList args.toList ds p hplain hA (fun j t v e1 e2 => hval j t v (by rw [← Array.getElem?_toList]; exact e1) (by rw [← Array.getElem?_toList]; exact e2)) hw1
  obtain ⟨x, henc, hok⟩ := hargs vss a1
  have hs : SoundV C.prog f con := by have := hcon.1; simpa only [Sound, hce, hcf] using this
  have hcall := hs x (fun g _ => g < W.heap.size) W args.toList (fun g j e => e) (by rw [henc]; exact a2) hok
  rw [show args.toList.toArray = args by simp] at hcall
  refine hcall.mono ?_
  rintro e W' ⟨v, F', rfl, hbl, _, _, _, hr⟩
  rw [hcr] at hr
  have hr : v = .bool true := hr
  subst hr
  have hds : ds.length = fn.params.size := by rw [hlen]; simp
  have hspec' := hspec ds hds
  have hlt : ∀ pl ∈ p ++ [], pl.block < W.heap.size := fun pl hp => hW'.lt pl hp
  have hA' : ∀ sp : Nat → Bool, (∀ pl ∈ p ++ [], sp pl.block = true) → DataW.TrodAll enc C.prog W' 0 sp true fn.params.toList args.toList ds p :=
    fun sp hsp => stays_all hl hbl fn.params.toList args.toList ds p hread hA (fun pl hp => hlt pl (by simp [hp])) (fun pl hp => hsp pl (by simp [hp]))
  have hres' : ∀ (b : Nat) (sp : Nat → Bool) (hd : Bool), DataW.TrodAll enc C.prog W' b sp hd fn.resultTypes.toList ((Value.bool true).resultList fn.resultTypes.size) [.lit (.bool true)] [] := by
    intro b sp hd
    rw [hres]
    exact trodAll_cons_mk (shut_bool hb _) trodAll_mk0
  refine ⟨_, rfl, ds, [], p ++ [], [], p, [], hW', ?_, ?_, ?_, ?_, fun ha => by cases ha⟩
  · rw [List.append_nil, hspec']
    exact hres' _ _ _
  · rw [List.append_nil, hspec']
    exact hA' _ fun pl hp => by simpa using hlt pl hp
  · rw [hvars, List.append_nil, hspec']
    rfl
  · exact hbl.frame _
end
end Go.Ev
/- A law, by what it is over data. -/
set_option linter.unusedVariables false
namespace Go.Ev
/-- A function that is true where its data say so. -/
def conL {α : Type} (F : α → Option Bool) (enc : α → List V) : Con := { α := α, enc := enc, ok := fun x => F x = some true, res := fun _ => .v (.bool true) }
theorem has_law {P : Program} {f : FuncId} {α : Type} {F : α → Option Bool} {enc : α → List V} {er : Bool → V} (h : Has P f (conF F enc er)) (he : er true = .v (.bool true)) : Has P f (conL F enc) := by
  refine ⟨?_, h.2⟩
  intro x F' w vs hF hv hok
  have := h.1 (x, true) F' w vs hF hv hok
  rw [show (conF F enc er).res (x, true) = .v (.bool true) from he] at this
  exact this
end Go.Ev
/- What is wanted of loops, lists and numbers, over data. -/
set_option linter.unusedVariables false
set_option linter.unusedSimpArgs false
namespace Go.Ev

theorem loop_run {S E : Type} {step : S → Option (S ⊕ E)} (st : Nat → S) (n : Nat) {e : E} (h : ∀ k, k < n → step (st k) = some (.inl (st (k + 1)))) (he : step (st n) = some (.inr e)) : loopC step (st 0) = some e := by
  have key : ∀ j, j ≤ n → loopC step (st (n - j)) = some e := by
    intro j
    induction j with
    | zero => intro _; rw [Nat.sub_zero, loopC_eq, he]
    | succ j ih =>
      intro hj
      rw [loopC_eq, h _ (by omega), show n - (j + 1) + 1 = n - j by omega]
      exact ih (by omega)
  have := key n (Nat.le_refl _)
  rwa [Nat.sub_self] at this

/-- Rounds over a list, until one fails. -/
theorem loop_list {α S E : Type} {step : S → Option (S ⊕ E)} (l : List α) (st : Nat → S) (q : α → Bool) {e f : E} (h : ∀ k (hk : k < l.length), step (st k) = some (if q l[k] then .inl (st (k + 1)) else .inr f)) (he : step (st l.length) = some (.inr e)) :
    loopC step (st 0) = some (if l.all q then e else f) := by
  have key : ∀ j, j ≤ l.length → loopC step (st (l.length - j)) = some (if (l.drop (l.length - j)).all q then e else f) := by
    intro j
    induction j with
    | zero => intro _; rw [Nat.sub_zero, loopC_eq, he]; simp
    | succ j ih =>
      intro hj
      have hlt : l.length - (j + 1) < l.length := by omega
      rw [loopC_eq, h _ hlt, List.drop_eq_getElem_cons hlt, show l.length - (j + 1) + 1 = l.length - j by omega]
      cases hq : q l[l.length - (j + 1)] with
      | true => simp only [if_true, List.all_cons, hq, Bool.true_and]; exact ih (by omega)
      | false => simp [hq]
  have := key l.length (Nat.le_refl _)
  rwa [Nat.sub_self, List.drop_zero] at this

/-- Rounds over a list that gather something, until one fails. -/
def gath {α σ E : Type} (g : σ → α → σ ⊕ E) (o : σ ⊕ E) (a : α) : σ ⊕ E := match o with
  | .inl s => g s a
  | .inr f => .inr f
theorem gath_inr {α σ E : Type} (g : σ → α → σ ⊕ E) (m : List α) (f : E) : m.foldl (gath g) (.inr f) = .inr f := by
  induction m with
  | nil => rfl
  | cons a m ih => simpa [gath] using ih
theorem loop_gather {α σ S E : Type} {step : S → Option (S ⊕ E)} (l : List α) (st : Nat → σ → S) (g : σ → α → σ ⊕ E) (e : σ → E) (h : ∀ k s (hk : k < l.length), step (st k s) = some (match g s l[k] with | .inl s' => .inl (st (k + 1) s') | .inr f => .inr f)) (he : ∀ s, step (st l.length s) = some (.inr (e s))) (s : σ) :
    loopC step (st 0 s) = some (match l.foldl (gath g) (.inl s) with | .inl s => e s | .inr f => f) := by
  have key : ∀ j, j ≤ l.length → ∀ s, loopC step (st (l.length - j) s) = some (match (l.drop (l.length - j)).foldl (gath g) (.inl s) with | .inl s => e s | .inr f => f) := by
    intro j
    induction j with
    | zero => intro _ s; rw [Nat.sub_zero, loopC_eq, he]; simp
    | succ j ih =>
      intro hj s
      have hlt : l.length - (j + 1) < l.length := by omega
      rw [loopC_eq, h _ _ hlt, List.drop_eq_getElem_cons hlt, show l.length - (j + 1) + 1 = l.length - j by omega, List.foldl_cons]
      simp only [gath]
      cases hg : g s l[l.length - (j + 1)] with
      | inl s' => simp only; exact ih (by omega) s'
      | inr f => simp only [gath_inr]
  have := key l.length (Nat.le_refl _) s
  rwa [Nat.sub_self, List.drop_zero] at this

theorem idx?_nat {α : Type} {l : List α} {k : Nat} (h : k < l.length) : idx? l (k : Int) = some l[k] := by
  unfold idx?
  rw [if_pos (by omega)]
  simp [h]
theorem wr_in {n : Int} (h : -9223372036854775808 ≤ n) (h' : n ≤ 9223372036854775807) : wr n = n := (wrap_ok h h').symm
theorem wr_nat {k : Nat} (h : k < 9223372036854775807) : wr ((k : Int) + 1) = ((k + 1 : Nat) : Int) := (wrap_succ h).symm

/-- Is a number from a to b? -/
def inB (n a b : Int) : Bool := decide (a ≤ n) && decide (n ≤ b)
theorem inB_iff {n a b : Int} : inB n a b = true ↔ a ≤ n ∧ n ≤ b := by simp [inB]
theorem app_nil {α : Type} {m : List α} {n : Nat} (h : m.length * n ≤ 140737488355328) (hn : 0 < n) : app? [] m n = some m := by
  unfold app?
  rw [if_pos (by simpa using ⟨h, hn⟩)]; rfl
theorem app_of {α : Type} {l m : List α} {n : Nat} (h : (l.length + m.length) * n ≤ 140737488355328) (hn : 0 < n) : app? l m n = some (l ++ m) := if_pos ⟨h, hn⟩
theorem nz_of {b : Int} (h : b ≠ 0) : nz? b = some () := if_pos h

/-- Neighbours in a list. -/
def pairs {α : Type} (l : List α) : List (α × α) := l.zip l.tail
theorem pairs_length {α : Type} (l : List α) : (pairs l).length = l.length - 1 := by simp [pairs]
theorem pairs_get {α : Type} (l : List α) (k : Nat) (h : k < (pairs l).length) : (pairs l)[k] = (l[k]'(by rw [pairs_length] at h; omega), l[k + 1]'(by rw [pairs_length] at h; omega)) := by
  simp [pairs]
end Go.Ev
/- The law's known(), over typed data. -/
namespace Go.Ev
def F_thalweglaw03_known : Unit → Option Bool := fun _ => some true
end Go.Ev
