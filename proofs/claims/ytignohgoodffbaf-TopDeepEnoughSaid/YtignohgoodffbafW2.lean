/- A part of the proof of TopDeepEnough. -/
import Derived.Carry
import Derived.OpenShut
import Derived.OrdersIn
import Derived.ProofKit
import Derived.SizedLaws
import Derived.Sort.LoopGhostIn
import Derived.Test.YtignohgoodffbafProg
import Derived.Test.YtignohgoodffbafW1
/- A run of the model follows the evaluator: regions, code, functions. -/
set_option linter.unusedVariables false
set_option linter.unusedSimpArgs false
namespace Go.Ev
open Go.RowKit

section
variable {P : Program} {C : FuncId → Option Con}

theorem yielded_of {O : Nat → Prop} {w0 : World} {F0 : FZ} {M0 : MP} {D : List Deferred} {U : Nat → Prop} {F : FZ} {m : MP} {sz : Nat} {tm : TM} {st : ST} {a : Act} {w : World} (h : Rel O w0 F0 M0 D U F m sz tm st a w)
    {ops : Array Oper} {j d : Nat} {b : Bool} (hd : (ops.toList[j]?).bind (·.dst) = some d) (hb : (look tm d).getD .top = .v (.bool b)) : yielded ops a.tmps j = some b := by
  have h1 := h.htm d
  rw [hb] at h1
  have h2 : a.tmps.getD d undef = .bool b := h1
  have h3 : a.tmps[d]? = some (.bool b) := by
    rw [Array.getD_eq_getD_getElem?] at h2
    cases h4 : a.tmps[d]? with
    | none => rw [h4] at h2; simp [undef] at h2
    | some v => rw [h4] at h2; simp at h2; rw [h2]
  rw [Array.getElem?_toList] at hd
  simp [yielded, hd, h3]

theorem yielded_not {O : Nat → Prop} {w0 : World} {F0 : FZ} {M0 : MP} {D : List Deferred} {U : Nat → Prop} {F : FZ} {m : MP} {sz : Nat} {tm : TM} {st : ST} {a : Act} {w : World} (h : Rel O w0 F0 M0 D U F m sz tm st a w)
    {ops : Array Oper} {j d : Nat} {arr : Array Value} (hd : (ops.toList[j]?).bind (·.dst) = some d) (hb : (look tm d).getD .top = .v (.tuple arr)) : yielded ops a.tmps j = none := by
  have h1 := h.htm d
  rw [hb] at h1
  have h2 : a.tmps.getD d undef = .tuple arr := h1
  rw [Array.getElem?_toList] at hd
  rw [Array.getD_eq_getD_getElem?] at h2
  cases h4 : a.tmps[d]? with
  | none => simp [yielded, hd, h4]
  | some v =>
    rw [h4] at h2
    simp at h2
    subst h2
    simp [yielded, hd, h4]

/-- A region whose order is the text's. -/
theorem evOps_sound (hC : CtxOK P C) {FF : Fence} (hW : Wide FF) {O : Nat → Prop} {w0 : World} {F0 : FZ} {M0 : MP} {D : List Deferred} {sz : Nat} {ops : Array Oper} {Q : Exit → Act → World → Prop} {K : TM → ST → Prop} :
    ∀ (l : List Oper) (k : Nat) (id : Nat) (F : FZ) (m : MP) (tm : TM) (st : ST) (a : Act) (w : World), ops.toList.drop k = l → Rel O w0 F0 M0 D (fun b => id ≤ b) F m sz tm st a w →
      evOps P C sz ops.toList l id tm st K →
      (∀ F' m' tm' st' a' w', Rel O w0 F0 M0 D (fun b => id + l.length ≤ b) F' m' sz tm' st' a' w' → K tm' st' → Q .normal a' w') → wpOpsIn FF 0 P ops Q ((List.range ops.size).drop k) a w
  | [], k, id, F, m, tm, st, a, w, hl, h, hg, hn => by
    have hk : ops.size ≤ k := by
      have := congrArg List.length hl
      simp at this
      omega
    rw [List.drop_of_length_le (by simpa using hk)]
    exact hn F m tm st a w h hg
  | o :: l, k, id, F, m, tm, st, a, w, hl, h, hg, hn => by
    have hk : k < ops.size := by
      have := congrArg List.length hl
      simp at this
      omega
    have ho : ops[k]? = some o := by
      have : (ops.toList.drop k)[0]? = some o := by rw [hl]; rfl
      rw [List.getElem?_drop, Nat.add_zero, Array.getElem?_toList] at this
      exact this
    have hl' : ops.toList.drop (k + 1) = l := by
      rw [← List.drop_drop, hl]; rfl
    have hr : (List.range ops.size).drop k = k :: (List.range ops.size).drop (k + 1) := by
      rw [List.drop_eq_getElem_cons (by simpa using hk)]
      simp
    rw [hr]
    simp only [wpOpsIn, ho]
    simp only [evOps] at hg
    split at hg
    · cases hg
    · next hd =>
      have hn' : ∀ F' m' tm' st' a' w', Rel O w0 F0 M0 D (fun b => id + 1 + l.length ≤ b) F' m' sz tm' st' a' w' → K tm' st' → Q .normal a' w' := by
        intro F' m' tm' st' a' w' hR hK
        exact hn F' m' tm' st' a' w' (hR.weakU fun b hb => by simp at hb; omega) hK
      have run : (opR P C id (ev tm) o.op).go st (fun v st' => evOps P C sz ops.toList l (id + 1) (putT tm o.dst v) st' K) → o.wpIn FF 0 P a w (wpOpsIn FF 0 P ops Q ((List.range ops.size).drop (k + 1))) Q := by
        intro hg
        refine op_ok hC o h (Nat.le_refl _) hd hg ?_ FF hW
        intro F' m' v st' a' w' hR hK
        exact evOps_sound hC hW l (k + 1) (id + 1) F' m' _ st' a' w' hl' (hR.weakU fun b hb => ⟨by omega, by omega⟩) hK hn'
      split at hg
      · next hgd =>
        have hw : Region.wanted o (yielded ops a.tmps) = true := by simp [Region.wanted, hgd]
        rw [if_pos hw]
        exact run hg
      · next j want hgd =>
        split at hg
        · cases hg
        · next d hdj =>
          split at hg
          · next b hb =>
            have hy := yielded_of h hdj hb
            have g1 : (b == want) = true → (opR P C id (ev tm) o.op).go st fun v st' => evOps P C sz ops.toList l (id + 1) (putT tm o.dst v) st' K := by
              cases want
              · obtain ⟨_, g⟩ := br_elim hg; intro e; exact g (by simpa using e)
              · obtain ⟨g, _⟩ := br_elim hg; intro e; exact g (by simpa using e)
            have g2 : (b == want) = false → evOps P C sz ops.toList l (id + 1) (putT tm o.dst vU) st K := by
              cases want
              · obtain ⟨g, _⟩ := br_elim hg; intro e; exact g (by simpa using e)
              · obtain ⟨_, g⟩ := br_elim hg; intro e; exact g (by simpa using e)
            by_cases hbw : (b == want) = true
            · have hw : Region.wanted o (yielded ops a.tmps) = true := by simpa [Region.wanted, hgd, hy] using hbw
              rw [if_pos hw]
              exact run (g1 hbw)
            · have hw : ¬ Region.wanted o (yielded ops a.tmps) = true := by simpa [Region.wanted, hgd, hy] using hbw
              rw [if_neg hw]
              have := g2 (by simpa using hbw)
              exact ⟨fun f _ => hW.fn f, evOps_sound hC hW l (k + 1) (id + 1) F m _ st _ w hl' ((h.weakU fun b hb => by omega).put hd (c := vU) rfl) this hn'⟩
          · next arr hb =>
            have hy := yielded_not h hdj hb
            have hw : ¬ Region.wanted o (yielded ops a.tmps) = true := by simp [Region.wanted, hgd, hy]
            rw [if_neg hw]
            exact ⟨fun f _ => hW.fn f, evOps_sound hC hW l (k + 1) (id + 1) F m _ st _ w hl' ((h.weakU fun b hb => by omega).put hd (c := vU) rfl) hg hn'⟩
          · cases hg

/-- Where a piece of code ends, as the evaluator says. -/
def Post (O : Nat → Prop) (w0 : World) (F0 : FZ) (M0 : MP) (D : List Deferred) (sz : Nat) (Q : AX → TM → ST → Nat → Prop) : Exit → Act → World → Prop
  | .normal, a, w => ∃ F m tm st nx, Rel O w0 F0 M0 D (fun b => nx ≤ b) F m sz tm st a w ∧ Q .normal tm st nx
  | .exit id, a, w => ∃ F m tm st nx, Rel O w0 F0 M0 D (fun b => nx ≤ b) F m sz tm st a w ∧ Q (.exit id) tm st nx
  | .ret, a, w => ∃ F m tm st nx, Rel O w0 F0 M0 D (fun b => nx ≤ b) F m sz tm st a w ∧ Q .ret tm st nx
  | _, _, _ => False

theorem SubT.mem {r : List (Nat × Nat)} : ∀ {tm' tm : TM}, SubT r tm' tm → ∀ p ∈ tm', renV r p.2 = some ((look tm p.1).getD .top) ∨ nilB p.2 ((look tm p.1).getD .top) = true
  | [], _, _, p, hp => by cases hp
  | (i, v) :: l, tm, ⟨h1, h2⟩, p, hp => by
    rcases List.mem_cons.1 hp with rfl | hp
    · exact h1
    · exact SubT.mem h2 p hp

theorem SubS.mem {r : List (Nat × Nat)} : ∀ {st' st : ST}, SubS r st' st → ∀ p ∈ st', (∃ b y, look r p.1 = some b ∧ renX r p.2 = some y ∧ look st b = some y) ∨ (decide (look r p.1 = none) && virtB p.2) = true ∨ (∃ b' cs' cs f, p.2 = .var cs' f ∧ look r p.1 = some b' ∧ look st b' = some (.var cs f) ∧ SubC r cs' cs)
  | [], _, _, p, hp => by cases hp
  | (i, v) :: l, tm, ⟨h1, h2⟩, p, hp => by
    rcases List.mem_cons.1 hp with rfl | hp
    · exact h1
    · exact SubS.mem h2 p hp

theorem SubC.get {r : List (Nat × Nat)} : ∀ {cs' cs : List V}, SubC r cs' cs → cs'.length = cs.length ∧ ∀ (i : Nat) (c : V), cs'[i]? = some c → ∃ c', cs[i]? = some c' ∧ (renV r c = some c' ∨ nilB c c' = true)
  | [], [], _ => ⟨rfl, fun i c h => by simp at h⟩
  | v :: l, d :: k, ⟨h1, h2⟩ => by
    obtain ⟨e1, e2⟩ := SubC.get h2
    refine ⟨by simp [e1], fun i c h => ?_⟩
    cases i with
    | zero => simp only [List.getElem?_cons_zero, Option.some.injEq] at h; subst h; exact ⟨d, rfl, h1⟩
    | succ i => rw [List.getElem?_cons_succ] at h ⊢; exact e2 i c h
  | [], _ :: _, h => h.elim
  | _ :: _, [], h => h.elim

theorem nilB_RV {m m' : MP} {F : FZ} {H : Array Obj} {c d : V} {x : Value} (h : nilB c d = true) (hx : RV m F H d x) : RV m' F H c x := by
  unfold nilB at h
  split at h
  · exact .inr ⟨rfl, hx⟩
  · cases h

/-- Lists of lists under other names. -/
theorem NOK.ren {O : Nat → Prop} {F : FZ} {m : MP} {st st' : ST} {H : Array Obj} {L : Nat → Nat → Nat → Prop} (hL : NOK O F m st H L) {r : List (Nat × Nat)} (h4 : (r.map (·.2)).Nodup) (hal : ∀ b, aliveB st' b → look r b ≠ none → ∃ b', look r b = some b' ∧ aliveB st b')
    (hn : ∀ b x, look st' b = some x → isNest x = true → (∃ b', look r b = some b' ∧ look st b' = some x) ∨ look r b = none) : NOK O F (fun b => (look r b).bind m) st' H (fun g b i => ∃ b', look r b = some b' ∧ L g b' i) := by
  refine ⟨?_, ?_, ?_, ?_⟩
  · rintro g b i ⟨b', _, hg⟩; exact hL.lo g b' i hg
  · rintro g b i b2 i2 ⟨b', h1, hg⟩ ⟨b2', h2, hg2⟩
    obtain ⟨e1, e2⟩ := hL.un g b' i b2' i2 hg hg2
    subst e1
    exact ⟨look_inj h4 h1 h2, e2⟩
  · rintro b g c ha hm b2 i ⟨b2', h1, hg⟩
    simp only [Option.bind_eq_some_iff] at hm
    obtain ⟨b', h2, hm⟩ := hm
    obtain ⟨b1, h3, a1⟩ := hal b ha (by rw [h2]; simp)
    rw [h2] at h3; cases h3
    exact hL.al b' g c a1 hm b2' i hg
  · intro b x hx
    rcases Bool.eq_false_or_eq_true (isNest x) with hne | hne
    rotate_left
    · exact NX_of_not hne
    rcases hn b x hx hne with ⟨b', h1, h2⟩ | h1
    · have := hL.nx b' x h2
      cases x with
      | nest e e2 s2 cs hole =>
        intro g c hm i c1 hc hh
        simp only [h1, Option.bind_some] at hm
        obtain ⟨y, hy, ls, n, e1, q1, q2, q3⟩ := this g c hm i c1 hc hh
        refine ⟨y, hy, ls, n, e1, q1, q2, q3.imp id ?_⟩
        rintro ⟨g2, cap, cur, p1, p2, p3⟩
        exact ⟨g2, cap, cur, p1, ⟨b', h1, p2⟩, p3⟩
      | _ => trivial
    · cases x with
      | nest e e2 s2 cs hole =>
        intro g c hm
        simp [h1] at hm
      | _ => trivial

/-- A state that says less. -/
theorem Rel.sub {O : Nat → Prop} {w0 : World} {F0 : FZ} {M0 : MP} {D : List Deferred} {U : Nat → Prop} {F : FZ} {m : MP} {sz : Nat} {tm tm' : TM} {st st' : ST} {a : Act} {w : World} {r : List (Nat × Nat)} {nx' pins : Nat}
    (h : Rel O w0 F0 M0 D U F m sz tm st a w) (hp : ∀ b y, M0 b = some y → b < pins) (hs : Sub pins r tm' st' nx' tm st) : Rel O w0 F0 M0 D (fun b => nx' ≤ b) F (fun b => (look r b).bind m) sz tm' st' a w := by
  obtain ⟨g1, g2, g3, g4⟩ := hs
  have h1 := g1.mem
  have h2 := g2.mem
  rw [Bool.and_eq_true] at g3
  have h3 : ∀ p ∈ r, p.1 < nx' := fun p hp => by simpa using List.all_eq_true.1 g3.1 p hp
  have h3' : ∀ p ∈ st', p.1 < nx' := fun p hp => by simpa using List.all_eq_true.1 g3.2 p hp
  have virt : ∀ {b : Nat} {x : Bx}, (decide (look r b = none) && virtB x) = true → look r b = none ∧ ((∃ e size, x = .row e size [] 0) ∨ ∃ e e2 s2, x = .nest e e2 s2 [] none) := by
    intro b x h
    rw [Bool.and_eq_true] at h
    refine ⟨of_decide_eq_true h.1, ?_⟩
    have h2 := h.2
    unfold virtB at h2
    split at h2
    · exact .inl ⟨_, _, rfl⟩
    · exact .inr ⟨_, _, _, rfl⟩
    · cases h2
  rw [Bool.and_eq_true] at g4
  have h4 : (r.map (·.2)).Nodup := of_decide_eq_true g4.1
  have h5 : ∀ i, i < pins → look r i = some i := fun i hi => of_decide_eq_true (List.all_eq_true.1 g4.2 i (List.mem_range.2 hi))
  have hal : ∀ b, aliveB st' b → look r b ≠ none → ∃ b', look r b = some b' ∧ aliveB st b' := by
    rintro b ⟨x, hx, hd⟩ hnn
    obtain ⟨b', y, e1, e2, e3⟩ | hv | ⟨b', cs', cs, f, ex, e1, e3, hc⟩ := h2 _ (look_mem hx)
    rotate_left
    · exact absurd (virt hv).1 hnn
    · exact ⟨b', e1, _, e3, fun h => by cases h⟩
    refine ⟨b', e1, y, e3, ?_⟩
    rintro rfl
    simp only at e2
    cases x with
    | var cs f =>
      simp only [renX, Option.map_eq_some_iff] at e2
      obtain ⟨_, _, e4⟩ := e2
      cases e4
    | row e size cs p => cases e2
    | loop r => cases e2
    | mark p => cases e2
    | dead => exact hd rfl
    | nest _ _ _ _ _ => cases e2
  refine { htm := ?_, hsz := h.hsz, hde := h.hde, hst := ?_, inj := ?_, fresh := ?_, pin := fun b y e => by rw [h5 b (hp b y e)]; exact h.pin b y e, keep := h.keep, f0 := h.f0, f1 := h.f1, f2 := h.f2, mlt := ?_, below := h.below, hb := h.hb, nst := ?_ }
  rotate_left 5
  · obtain ⟨L, hL⟩ := h.nst
    refine ⟨_, hL.ren h4 hal fun b x hx hne => ?_⟩
    obtain ⟨b', y, e1, e2, e3⟩ | hv | ⟨b', cs', cs, f, ex, e1, e3, hc⟩ := h2 _ (look_mem hx)
    · simp only at e2
      cases x with
      | nest e e2' s2 cs hole =>
        simp only [renX, Option.some.injEq] at e2
        subst e2
        exact .inl ⟨b', e1, e3⟩
      | _ => cases hne
    · exact .inr (virt hv).1
    · simp only at ex
      subst ex; cases hne
  · intro i
    cases hl : look tm' i with
    | none => exact trivial
    | some v =>
      simp only [Option.getD_some]
      rcases h1 _ (look_mem hl) with h1 | h1
      · exact renV_RV h1 (h.htm i)
      · have ht := h.htm i
        generalize (look tm i).getD .top = c at h1 ht
        simp only at h1
        unfold nilB at h1
        split at h1
        · exact .inr ⟨rfl, ht⟩
        · cases h1
  · intro b x hx
    obtain ⟨b', y, e1, e2, e3⟩ | hv | ⟨b', cs, cs', f, ex, e1, e3, hc⟩ := h2 _ (look_mem hx)
    rotate_left
    · obtain ⟨hr, ⟨e, size, rfl⟩ | ⟨e, e2, s2, rfl⟩⟩ := virt hv
      · simp only at hr
        exact .inr ⟨by simp [hr], rfl, rfl⟩
      · simp only at hr
        exact .inr ⟨by simp [hr], rfl, rfl⟩
    · simp only at ex e1
      subst ex
      obtain ⟨g, c, arr, ty, q1, q2, q3, q4, q5, q6⟩ := h.hst b' _ e3
      obtain ⟨l1, l2⟩ := hc.get
      refine ⟨g, c, arr, ty, by simp [e1, q1], q2, q3, ⟨by rw [l1]; exact q4.1, fun i c x hc hx => ?_⟩, q5, fun hf j hj => q6 hf j (by omega)⟩
      obtain ⟨c', hc', hr⟩ := l2 i c hc
      refine ⟨?_, (q4.2 i c' x hc' hx).2⟩
      rcases hr with hr | hr
      · exact renV_RV hr (q4.2 i c' x hc' hx).1
      · exact nilB_RV hr (q4.2 i c' x hc' hx).1
    simp only at e1 e2
    have hy := h.hst b' y e3
    cases x with
    | var cs f =>
      simp only [renX, Option.map_eq_some_iff] at e2
      obtain ⟨cs', hm, rfl⟩ := e2
      obtain ⟨g, c, arr, ty, q1, q2, q3, q4, q5, q6⟩ := hy
      obtain ⟨l1, l2⟩ := mapM_get hm
      refine ⟨g, c, arr, ty, by simp [e1, q1], q2, q3, ⟨by rw [l1]; exact q4.1, fun i c x hc hx => ?_⟩, q5, fun hf j hj => q6 hf j (by omega)⟩
      obtain ⟨c', hc', hr⟩ := l2 i c hc
      exact ⟨renV_RV hr (q4.2 i c' x hc' hx).1, (q4.2 i c' x hc' hx).2⟩
    | row e size cs p =>
      simp only [renX, Option.some.injEq] at e2
      subst e2
      rcases hy with ⟨g, cap, cur, q1, q⟩ | ⟨q1, q⟩
      · exact .inl ⟨g, cap, cur, by simp [e1, q1], q⟩
      · exact .inr ⟨by simp [e1, q1], q⟩
    | loop r => cases e2
    | mark p => cases e2
    | dead => trivial
    | nest e e2' s2 cs hole =>
      simp only [renX, Option.some.injEq] at e2
      subst e2
      rcases hy with ⟨g, cap, cur, q1, q⟩ | ⟨q1, q⟩
      · exact .inl ⟨g, cap, cur, by simp [e1, q1], q⟩
      · exact .inr ⟨by simp [e1, q1], q⟩
  · intro b b' g c c' ha ha' hm hm'
    obtain ⟨b1, e1, a1⟩ := hal b ha (fun e => by simp [e] at hm)
    obtain ⟨b2, e2, a2⟩ := hal b' ha' (fun e => by simp [e] at hm')
    rw [e1] at hm
    rw [e2] at hm'
    have := h.inj b1 b2 g c c' a1 a2 hm hm'
    subst this
    exact look_inj h4 e1 e2
  · intro b hb
    have hr : look r b = none := by
      cases hl : look r b with
      | none => rfl
      | some b' => have := h3 _ (look_mem hl); simp only at this; omega
    refine ⟨?_, by simp [hr]⟩
    cases hl : look st' b with
    | none => rfl
    | some x =>
      have := h3' _ (look_mem hl)
      simp only at this; omega
  · intro b g c hm
    simp only [Option.bind_eq_some_iff] at hm
    obtain ⟨b', _, hm⟩ := hm
    exact h.mlt b' g c hm

end
end Go.Ev
/- Regions whose order is open: the order of the text serves them all, where steps that are not ordered have nothing in common. -/
set_option linter.unusedVariables false
set_option linter.unusedSimpArgs false
namespace Go.Ev
open Go.RowKit

/-- The work of an operation, with what it reads and writes. -/
def RM.ex : RM → (Nat → Option Bx) → List Nat → List (Nat × Bx) → V → Prop
  | .fail, _, _, _, _ => False
  | .ret c, _, rs, us, v => rs = [] ∧ us = [] ∧ v = c
  | .req p k, L, rs, us, v => p ∧ k.ex L rs us v
  | @RM.dec p k _, L, rs, us, v => p ∧ k.ex L rs us v
  | .exi _ p k, L, rs, us, v => ∃ x, p x ∧ (k x).ex L rs us v
  | .get b k, L, rs, us, v => ∃ x rs', L b = some x ∧ rs = b :: rs' ∧ (k x).ex L rs' us v
  | .put b x k, L, rs, us, v => ∃ us', us = us' ++ [(b, x)] ∧ k.ex (fun j => if b = j then some x else L j) rs us' v

theorem RM.ex_go : ∀ (r : RM) (st : ST) (rs : List Nat) (us : List (Nat × Bx)) (v : V) (K : V → ST → Prop), r.ex (look st) rs us v → K v (us ++ st) → r.go st K
  | .fail, st, rs, us, v, K, h, _ => h.elim
  | .ret c, st, rs, us, v, K, ⟨_, h2, h3⟩, hk => by subst h2 h3; exact hk
  | .req p k, st, rs, us, v, K, ⟨h1, h2⟩, hk => ⟨h1, ex_go k st rs us v K h2 hk⟩
  | @RM.dec p k _, st, rs, us, v, K, ⟨h1, h2⟩, hk => ⟨h1, ex_go k st rs us v K h2 hk⟩
  | .exi _ p k, st, rs, us, v, K, ⟨x, h1, h2⟩, hk => ⟨x, h1, ex_go (k x) st rs us v K h2 hk⟩
  | .get b k, st, rs, us, v, K, ⟨x, rs', h1, _, h2⟩, hk => by
    simp only [RM.go, h1]
    exact ex_go (k x) st rs' us v K h2 hk
  | .put b x k, st, rs, us, v, K, ⟨us', h1, h2⟩, hk => by
    simp only [RM.go]
    have e : (fun j => if b = j then some x else look st j) = look ((b, x) :: st) := by funext j; rw [look_cons]
    rw [e] at h2
    refine ex_go k _ rs us' v K h2 ?_
    subst h1
    simpa using hk

theorem RM.goT_ex : ∀ (r : RM) (st : ST) (rs0 ws0 : List Nat) (K : V → ST → List Nat → List Nat → Prop), r.goT st rs0 ws0 K →
    ∃ rs us v rs1 ws1, r.ex (look st) rs us v ∧ K v (us ++ st) rs1 ws1 ∧ (∀ b, b ∈ rs1 ↔ b ∈ rs0 ∨ b ∈ rs) ∧ (∀ b, b ∈ ws1 ↔ b ∈ ws0 ∨ b ∈ us.map (·.1))
  | .fail, st, rs0, ws0, K, h => h.elim
  | .ret c, st, rs0, ws0, K, h => ⟨[], [], c, rs0, ws0, ⟨rfl, rfl, rfl⟩, h, by simp, by simp⟩
  | .req p k, st, rs0, ws0, K, ⟨h1, h2⟩ => by
    obtain ⟨rs, us, v, rs1, ws1, e1, e2, e3, e4⟩ := goT_ex k st rs0 ws0 K h2
    exact ⟨rs, us, v, rs1, ws1, ⟨h1, e1⟩, e2, e3, e4⟩
  | @RM.dec p k _, st, rs0, ws0, K, ⟨h1, h2⟩ => by
    obtain ⟨rs, us, v, rs1, ws1, e1, e2, e3, e4⟩ := goT_ex k st rs0 ws0 K h2
    exact ⟨rs, us, v, rs1, ws1, ⟨h1, e1⟩, e2, e3, e4⟩
  | .exi _ p k, st, rs0, ws0, K, ⟨x, h1, h2⟩ => by
    obtain ⟨rs, us, v, rs1, ws1, e1, e2, e3, e4⟩ := goT_ex (k x) st rs0 ws0 K h2
    exact ⟨rs, us, v, rs1, ws1, ⟨x, h1, e1⟩, e2, e3, e4⟩
  | .get b k, st, rs0, ws0, K, h => by
    simp only [RM.goT] at h
    split at h
    · next x hx =>
      obtain ⟨rs, us, v, rs1, ws1, e1, e2, e3, e4⟩ := goT_ex (k x) st (b :: rs0) ws0 K h
      refine ⟨b :: rs, us, v, rs1, ws1, ⟨x, rs, hx, rfl, e1⟩, e2, fun q => ?_, e4⟩
      rw [e3]
      simp only [List.mem_cons]
      constructor
      · rintro ((h | h) | h)
        · exact .inr (.inl h)
        · exact .inl h
        · exact .inr (.inr h)
      · rintro (h | h | h)
        · exact .inl (.inr h)
        · exact .inl (.inl h)
        · exact .inr h
    · cases h
  | .put b x k, st, rs0, ws0, K, h => by
    simp only [RM.goT] at h
    obtain ⟨rs, us, v, rs1, ws1, e1, e2, e3, e4⟩ := goT_ex k ((b, x) :: st) rs0 (b :: ws0) K h
    have e : (fun j => if b = j then some x else look st j) = look ((b, x) :: st) := by funext j; rw [look_cons]
    refine ⟨rs, us ++ [(b, x)], v, rs1, ws1, ⟨us, rfl, by rw [e]; exact e1⟩, by simpa using e2, e3, fun q => ?_⟩
    rw [e4]
    simp only [List.mem_cons, List.map_append, List.map_cons, List.map_nil, List.mem_append, List.mem_singleton, List.not_mem_nil, or_false]
    constructor
    · rintro ((h | h) | h)
      · exact .inr (.inr h)
      · exact .inl h
      · exact .inr (.inl h)
    · rintro (h | h | h)
      · exact .inl (.inr h)
      · exact .inr h
      · exact .inl (.inl h)

theorem RM.ex_congr : ∀ (r : RM) (L L' : Nat → Option Bx) (rs : List Nat) (us : List (Nat × Bx)) (v : V), r.ex L rs us v → (∀ b ∈ rs, L' b = L b) → r.ex L' rs us v
  | .fail, _, _, _, _, _, h, _ => h
  | .ret c, _, _, _, _, _, h, _ => h
  | .req p k, L, L', rs, us, v, ⟨h1, h2⟩, he => ⟨h1, ex_congr k L L' rs us v h2 he⟩
  | @RM.dec p k _, L, L', rs, us, v, ⟨h1, h2⟩, he => ⟨h1, ex_congr k L L' rs us v h2 he⟩
  | .exi _ p k, L, L', rs, us, v, ⟨x, h1, h2⟩, he => ⟨x, h1, ex_congr (k x) L L' rs us v h2 he⟩
  | .get b k, L, L', rs, us, v, ⟨x, rs', h1, h2, h3⟩, he => by
    subst h2
    exact ⟨x, rs', by rw [he b (by simp), h1], rfl, ex_congr (k x) L L' rs' us v h3 (fun b hb => he b (by simp [hb]))⟩
  | .put b x k, L, L', rs, us, v, ⟨us', h1, h2⟩, he => by
    refine ⟨us', h1, ex_congr k _ _ rs us' v h2 (fun q hq => ?_)⟩
    by_cases e : b = q
    · simp [e]
    · simpa [e] using he q hq

theorem look_append {α : Type} : ∀ (us st : List (Nat × α)) (j : Nat), look (us ++ st) j = (look us j).or (look st j)
  | [], st, j => by simp
  | (i, x) :: us, st, j => by
    rw [List.cons_append, look_cons, look_cons]
    split
    · simp
    · exact look_append us st j

theorem look_none {α : Type} : ∀ {us : List (Nat × α)} {j : Nat}, j ∉ us.map (·.1) → look us j = none
  | [], j, _ => rfl
  | (i, x) :: us, j, h => by
    simp only [List.map_cons, List.mem_cons, not_or] at h
    rw [look_cons, if_neg (fun e => h.1 e.symm)]
    exact look_none h.2

section
variable (P : Program) (C : FuncId → Option Con) (sz : Nat) (ops : Array Oper) (nx : Nat)

/-- One step of a region. -/
def stepA (i : Nat) (o : Oper) (tm : TM) (L : Nat → Option Bx) (rs : List Nat) (us : List (Nat × Bx)) (v : V) : Prop :=
  okDst sz o.dst = true ∧ match o.guard with
    | none => (opR P C (nx + i) (ev tm) o.op).ex L rs us v
    | some (j, want) => ∃ d, (ops.toList[j]?).bind (·.dst) = some d ∧ ((∃ b, (look tm d).getD .top = .v (.bool b) ∧
      (if b = want then (opR P C (nx + i) (ev tm) o.op).ex L rs us v else rs = [] ∧ us = [] ∧ v = vU)) ∨ ((∃ arr, (look tm d).getD .top = .v (.tuple arr)) ∧ rs = [] ∧ us = [] ∧ v = vU))

abbrev FP := List Nat × List (Nat × Bx) × V

def TrD : List (Nat × Oper) → TM → ST → List FP → Prop
  | [], _, _, [] => True
  | (i, o) :: l, tm, st, (rs, us, v) :: fs => stepA P C sz ops nx i o tm (look st) rs us v ∧ TrD l (putT tm o.dst v) (us ++ st) fs
  | _, _, _, _ => False

def endTm : List (Nat × Oper) → TM → List FP → TM
  | (_, o) :: l, tm, (_, _, v) :: fs => endTm l (putT tm o.dst v) fs
  | _, tm, _ => tm
def endSt : List FP → ST → ST
  | (_, us, _) :: fs, st => endSt fs (us ++ st)
  | [], st => st

def Eqv {α : Type} (s t : List (Nat × α)) : Prop := ∀ j, look s j = look t j

variable {P C sz ops nx}

theorem opR_congr {id : Nat} {ρ ρ' : Operand → V} {op : Op} (h : ∀ x ∈ op.operands, ρ x = ρ' x) : opR P C id ρ op = opR P C id ρ' op := by
  have hm : ∀ {l : List Operand}, (∀ x ∈ l, ρ x = ρ' x) → l.map ρ = l.map ρ' := fun h => List.map_congr_left h
  cases op
  all_goals try (simp only [opR]; done)
  case build t parts =>
    have e : (parts.toList.map fun (i, x) => (i, ρ x)) = (parts.toList.map fun (i, x) => (i, ρ' x)) := by
      refine List.map_congr_left fun p hp => ?_
      have := h p.2 (by simp only [Op.operands]; simp; exact ⟨p.1, by simpa using hp⟩)
      obtain ⟨i, x⟩ := p
      simp only at this ⊢
      rw [this]
    simp only [opR, e]
  case buildSlice t n parts =>
    have e : (parts.toList.map fun (i, x) => (i, ρ x)) = (parts.toList.map fun (i, x) => (i, ρ' x)) := by
      refine List.map_congr_left fun p hp => ?_
      have := h p.2 (by simp only [Op.operands]; simp; exact ⟨p.1, by simpa using hp⟩)
      obtain ⟨i, x⟩ := p
      simp only at this ⊢
      rw [this]
    simp only [opR, e]
  case call c =>
    obtain ⟨callee, args, ts⟩ := c
    cases callee with
    | value f =>
      have e1 : ρ f = ρ' f := h f (by simp [Op.operands, Call.operands])
      have e2 : args.toList.map ρ = args.toList.map ρ' := hm fun x hx => h x (by simp [Op.operands, Call.operands]; right; simpa using hx)
      simp only [opR, e1, e2]
    | builtin b =>
      have e2 : ∀ x ∈ args.toList, ρ x = ρ' x := fun x hx => h x (by simp [Op.operands, Call.operands]; simpa using hx)
      have e3 := hm e2
      cases b <;> simp only [opR, e3]
      all_goals
        generalize args.toList = l at e2
        match l with
        | [] => rfl
        | [x] => simp only [e2 x (by simp)]
        | [x, y] => simp only [e2 x (by simp), e2 y (by simp)]
        | x :: y :: z :: l => rfl
    | invoke r n => simp only [opR]
  case makeFunc fn first caps =>
    have e2 : caps.toList.map ρ = caps.toList.map ρ' := hm fun x hx => h x (by simp [Op.operands]; right; simpa using hx)
    simp only [opR, e2]
  case slice t x lo hi mx =>
    have e1 : ρ x = ρ' x := h x (by simp [Op.operands])
    have e2 : ∀ (d : Int), boundI ρ lo d = boundI ρ' lo d := by
      intro d
      cases lo with
      | none => rfl
      | some y => simp only [boundI, h y (by simp [Op.operands])]
    have e3 : ∀ (d : Int), boundI ρ hi d = boundI ρ' hi d := by
      intro d
      cases hi with
      | none => rfl
      | some y => simp only [boundI, h y (by simp [Op.operands])]
    simp only [opR, e1, e2, e3]
  all_goals (simp only [Op.operands] at h; simp at h; simp only [opR, h])

theorem look_ev {tm tm' : TM} {x : Operand} (h : ∀ t, x = .tmp t → look tm' t = look tm t) : ev tm' x = ev tm x := by
  cases x with
  | tmp t => simp only [ev, h t rfl]
  | _ => rfl

theorem mem_looksAt {o : Oper} {t : Tmp} (h : Operand.tmp t ∈ o.op.operands) : t ∈ o.looksAt ops := by
  unfold Oper.looksAt
  refine List.mem_append.2 (.inl (List.mem_filterMap.2 ⟨_, Array.mem_toList_iff.2 h, rfl⟩))

theorem stepA_congr {i : Nat} {o : Oper} {tm tm' : TM} {L L' : Nat → Option Bx} {rs : List Nat} {us : List (Nat × Bx)} {v : V} (h : stepA P C sz ops nx i o tm L rs us v)
    (ht : ∀ t ∈ o.looksAt ops, look tm' t = look tm t) (hL : ∀ b ∈ rs, L' b = L b) : stepA P C sz ops nx i o tm' L' rs us v := by
  have hop : opR P C (nx + i) (ev tm') o.op = opR P C (nx + i) (ev tm) o.op := opR_congr fun x hx => look_ev fun t e => ht t (by subst e; exact mem_looksAt hx)
  obtain ⟨h1, h2⟩ := h
  refine ⟨h1, ?_⟩
  cases hg : o.guard with
  | none =>
    rw [hg] at h2
    simp only at h2 ⊢
    rw [hop]
    exact RM.ex_congr _ _ _ _ _ _ h2 hL
  | some q =>
    obtain ⟨j, want⟩ := q
    rw [hg] at h2
    simp only at h2 ⊢
    obtain ⟨d, e1, e23⟩ := h2
    have hd : look tm' d = look tm d := by
      rw [ht d]
      unfold Oper.looksAt
      refine List.mem_append.2 (.inr ?_)
      rw [hg]
      rw [Array.getElem?_toList] at e1
      simp [e1]
    refine ⟨d, e1, ?_⟩
    rw [hd]
    rcases e23 with ⟨b, e2, e3⟩ | e2
    · refine .inl ⟨b, e2, ?_⟩
      split
      · next hb =>
        rw [if_pos hb] at e3
        rw [hop]
        exact RM.ex_congr _ _ _ _ _ _ e3 hL
      · next hb => rw [if_neg hb] at e3; exact e3
    · exact .inr e2

theorem Eqv.cons {α : Type} {s t : List (Nat × α)} (h : Eqv s t) (us : List (Nat × α)) : Eqv (us ++ s) (us ++ t) := fun j => by rw [look_append, look_append, h j]

theorem Eqv.put {s t : TM} (h : Eqv s t) (d : Option Nat) (v : V) : Eqv (putT s d v) (putT t d v) := by
  cases d with
  | none => exact h
  | some i => intro j; simp only [putT, look_cons, h j]

theorem TrD_congr : ∀ {l : List (Nat × Oper)} {tm tm' : TM} {st st' : ST} {fs : List FP}, TrD P C sz ops nx l tm st fs → Eqv tm' tm → Eqv st' st →
    TrD P C sz ops nx l tm' st' fs ∧ Eqv (endTm l tm' fs) (endTm l tm fs) ∧ Eqv (endSt fs st') (endSt fs st)
  | [], tm, tm', st, st', [], h, e1, e2 => ⟨trivial, e1, e2⟩
  | [], _, _, _, _, _ :: _, h, _, _ => h.elim
  | _ :: _, _, _, _, _, [], h, _, _ => by simp [TrD] at h
  | (i, o) :: l, tm, tm', st, st', (rs, us, v) :: fs, ⟨h1, h2⟩, e1, e2 => by
    obtain ⟨q1, q2, q3⟩ := TrD_congr h2 (e1.put o.dst v) (e2.cons us)
    exact ⟨⟨stepA_congr h1 (fun t _ => e1 t) (fun b _ => e2 b), q1⟩, q2, q3⟩

/-- Two steps that have nothing in common. -/
def Indep (ops : Array Oper) (x y : Oper) (f g : FP) : Prop :=
  x.apart ops y = true ∧ (∀ b ∈ f.2.1.map (·.1), b ∉ g.1 ∧ b ∉ g.2.1.map (·.1)) ∧ (∀ b ∈ g.2.1.map (·.1), b ∉ f.1)

theorem look_put_ne {tm : TM} {d : Option Nat} {v : V} {t : Nat} (h : d ≠ some t) : look (putT tm d v) t = look tm t := by
  cases d with
  | none => rfl
  | some i => rw [putT, look_cons, if_neg (fun e => h (by rw [e]))]

/-- A step that is independent of those before it can be taken first. -/
theorem TrD_first : ∀ {l1 l2 : List (Nat × Oper)} {i : Nat} {o : Oper} {tm : TM} {st : ST} {f1 f2 : List FP} {f : FP}, l1.length = f1.length → TrD P C sz ops nx (l1 ++ (i, o) :: l2) tm st (f1 ++ f :: f2) →
    (∀ (k : Nat) (p : Nat × Oper) (g : FP), l1[k]? = some p → f1[k]? = some g → Indep ops p.2 o g f) →
    TrD P C sz ops nx ((i, o) :: (l1 ++ l2)) tm st (f :: (f1 ++ f2)) ∧ Eqv (endTm ((i, o) :: (l1 ++ l2)) tm (f :: (f1 ++ f2))) (endTm (l1 ++ (i, o) :: l2) tm (f1 ++ f :: f2)) ∧
      Eqv (endSt (f :: (f1 ++ f2)) st) (endSt (f1 ++ f :: f2) st)
  | [], l2, i, o, tm, st, [], f2, f, _, h, _ => ⟨h, fun _ => rfl, fun _ => rfl⟩
  | [], _, _, _, _, _, _ :: _, _, _, hl, _, _ => by simp at hl
  | _ :: _, _, _, _, _, _, [], _, _, hl, _, _ => by simp at hl
  | (j, oj) :: l1, l2, i, o, tm, st, (rj, uj, vj) :: f1, f2, f, hl, h, hi => by
    obtain ⟨h1, h2⟩ := h
    obtain ⟨q1, q2, q3⟩ := TrD_first (by simpa using hl) h2 (fun k p g hp hg => hi (k + 1) p g (by simpa using hp) (by simpa using hg))
    obtain ⟨ri, ui, vi⟩ := f
    obtain ⟨q4, q5⟩ := q1
    obtain ⟨i1, i2, i3⟩ := hi 0 _ _ rfl rfl
    obtain ⟨a1, a2, a3⟩ := Oper.apart_spec i1
    simp only at i2 i3 a1 a2 a3
    have e1 : stepA P C sz ops nx i o tm (look st) ri ui vi := stepA_congr q4 (fun t ht => by
      rw [look_put_ne]
      intro e
      exact a1 t e ht) (fun b hb => by
      rw [look_append, look_none (fun hm => (i2 b hm).1 hb)]; rfl)
    have e2 : stepA P C sz ops nx j oj (putT tm o.dst vi) (look (ui ++ st)) rj uj vj := stepA_congr h1 (fun t ht => look_put_ne fun e => a3 t e ht) (fun b hb => by
      rw [look_append, look_none (fun hm => i3 b hm hb)]; rfl)
    have et : Eqv (putT (putT tm o.dst vi) oj.dst vj) (putT (putT tm oj.dst vj) o.dst vi) := by
      intro t
      by_cases c1 : oj.dst = some t
      · have c2 : o.dst ≠ some t := a2 t c1
        rw [look_put_ne c2, c1]
        simp only [putT, look_cons, if_true]
      · rw [look_put_ne c1]
        by_cases c2 : o.dst = some t
        · rw [c2]; simp only [putT, look_cons, if_true]
        · rw [look_put_ne c2, look_put_ne c2, look_put_ne c1]
    have es : Eqv (uj ++ (ui ++ st)) (ui ++ (uj ++ st)) := by
      intro b
      rw [look_append, look_append, look_append, look_append]
      by_cases c1 : b ∈ uj.map (·.1)
      · rw [look_none (us := ui) (i2 b c1).2]; simp
      · rw [look_none c1]; simp
    obtain ⟨t1, t2, t3⟩ := TrD_congr q5 et es
    exact ⟨⟨e1, e2, t1⟩, fun t => (t2 t).trans (q2 t), fun b => (t3 b).trans (q3 b)⟩

theorem enumL_get : ∀ {os : List Oper} {i k : Nat} {p : Nat × Oper}, (enumL i os)[k]? = some p → p.1 = i + k ∧ os[k]? = some p.2
  | [], _, _, _, h => by simp [enumL] at h
  | o :: os, i, 0, p, h => by simp [enumL] at h; subst h; simp
  | o :: os, i, k + 1, p, h => by
    simp only [enumL, List.getElem?_cons_succ] at h
    obtain ⟨h1, h2⟩ := enumL_get h
    exact ⟨by omega, by simpa using h2⟩

theorem enumL_length : ∀ (os : List Oper) (i : Nat), (enumL i os).length = os.length
  | [], _ => rfl
  | o :: os, i => by simp [enumL, enumL_length os (i + 1)]

/-- Ordered, or independent. -/
def Free (ops : Array Oper) (p q : Nat × Oper) (f g : FP) : Prop := (∃ e ∈ q.2.after, Region.binds .any e = true ∧ e.on = p.1) ∨ Indep ops p.2 q.2 f g

theorem indepB_spec {i : Nat} {o : Oper} {rs ws : List Nat} {prev : List (Nat × Oper × List Nat × List Nat)} (h : indepB ops o rs ws prev = true) {j : Nat} {oj : Oper} {rj wj : List Nat}
    (hm : (j, oj, rj, wj) ∈ prev) {f g : FP} (h1 : ∀ b, b ∈ rj ↔ b ∈ f.1) (h2 : ∀ b, b ∈ wj ↔ b ∈ f.2.1.map (·.1)) (h3 : ∀ b, b ∈ rs ↔ b ∈ g.1) (h4 : ∀ b, b ∈ ws ↔ b ∈ g.2.1.map (·.1)) : Free ops (j, oj) (i, o) f g := by
  have := List.all_eq_true.1 h _ hm
  simp only [Bool.or_eq_true, Bool.and_eq_true, List.all_eq_true, Bool.not_eq_true', List.contains_eq_mem, decide_eq_false_iff_not] at this
  rcases this with h5 | ⟨⟨h5, h6⟩, h7⟩
  · left
    rw [Array.any_eq_true] at h5
    obtain ⟨q, hq, hb⟩ := h5
    simp only [Bool.and_eq_true, beq_iff_eq] at hb
    exact ⟨_, Array.getElem_mem hq, hb.1, hb.2⟩
  · right
    refine ⟨h5, fun b hb => ?_, fun b hb => ?_⟩
    · have := h6 b ((h2 b).2 hb)
      exact ⟨fun e => this.1 ((h3 b).2 e), fun e => this.2 ((h4 b).2 e)⟩
    · have := h7 b ((h4 b).2 hb)
      exact fun e => this ((h1 b).2 e)

def TrEx (P : Program) (C : FuncId → Option Con) (sz : Nat) (ops : Array Oper) (nx : Nat) (K : TM → ST → Prop) (os : List Oper) (i : Nat) (tm : TM) (st : ST) (prev : List (Nat × Oper × List Nat × List Nat)) : Prop :=
    ∃ fs : List FP, fs.length = os.length ∧ TrD P C sz ops nx (enumL i os) tm st fs ∧ K (endTm (enumL i os) tm fs) (endSt fs st) ∧
      (∀ (a b : Nat) (p q : Nat × Oper) (f g : FP), a < b → (enumL i os)[a]? = some p → (enumL i os)[b]? = some q → fs[a]? = some f → fs[b]? = some g → Free ops p q f g) ∧
      (∀ (b : Nat) (q : Nat × Oper) (f g : FP) (j : Nat) (oj : Oper) (rj wj : List Nat), (j, oj, rj, wj) ∈ prev → (enumL i os)[b]? = some q → fs[b]? = some g → (∀ b, b ∈ rj ↔ b ∈ f.1) → (∀ b, b ∈ wj ↔ b ∈ f.2.1.map (·.1)) → Free ops (j, oj) q f g)

theorem evOpsD_tr {K : TM → ST → Prop} : ∀ (os : List Oper) (i : Nat) (tm : TM) (st : ST) (prev : List (Nat × Oper × List Nat × List Nat)), evOpsD P C sz ops nx os i tm st prev K → TrEx P C sz ops nx K os i tm st prev
  | [], i, tm, st, prev, h => ⟨[], rfl, trivial, h, by simp [enumL], by simp [enumL]⟩
  | o :: os, i, tm, st, prev, h => by
    simp only [evOpsD] at h
    split at h
    · cases h
    · next hd =>
      have main : ∀ (rs : List Nat) (us : List (Nat × Bx)) (v : V) (rs1 ws1 : List Nat), stepA P C sz ops nx i o tm (look st) rs us v → (∀ b, b ∈ rs1 ↔ b ∈ rs) → (∀ b, b ∈ ws1 ↔ b ∈ us.map (·.1)) →
          (match indepB ops o rs1 ws1 prev with
            | false => False
            | true => evOpsD P C sz ops nx os (i + 1) (putT tm o.dst v) (us ++ st) ((i, o, rs1, ws1) :: prev) K) →
          TrEx P C sz ops nx K (o :: os) i tm st prev := by
        intro rs us v rs1 ws1 hs e1 e2 hm
        split at hm
        · cases hm
        · next hind =>
          obtain ⟨fs, q1, q2, q3, q4, q5⟩ := evOpsD_tr os (i + 1) _ _ _ hm
          refine ⟨(rs, us, v) :: fs, by simp [q1], ⟨hs, q2⟩, q3, ?_, ?_⟩
          · intro a b p q f g hab hp hq hf hg
            cases b with
            | zero => omega
            | succ b =>
              simp only [enumL, List.getElem?_cons_succ] at hq hg
              cases a with
              | zero =>
                simp only [enumL, List.getElem?_cons_zero, Option.some.injEq] at hp hf
                subst hp hf
                exact q5 b q (rs, us, v) g i o rs1 ws1 (by simp) hq hg e1 e2
              | succ a =>
                simp only [enumL, List.getElem?_cons_succ] at hp hf
                exact q4 a b p q f g (by omega) hp hq hf hg
          · intro b q f g j oj rj wj hmem hq hg h1 h2
            cases b with
            | zero =>
              simp only [enumL, List.getElem?_cons_zero, Option.some.injEq] at hq hg
              subst hq hg
              exact indepB_spec hind hmem h1 h2 e1 e2
            | succ b =>
              simp only [enumL, List.getElem?_cons_succ] at hq hg
              exact q5 b q f g j oj rj wj (by simp [hmem]) hq hg h1 h2
      have run : (opR P C (nx + i) (ev tm) o.op).goT st [] [] (fun v st' rs ws => match indepB ops o rs ws prev with
            | false => False
            | true => evOpsD P C sz ops nx os (i + 1) (putT tm o.dst v) st' ((i, o, rs, ws) :: prev) K) → (∀ rs us v, (opR P C (nx + i) (ev tm) o.op).ex (look st) rs us v → stepA P C sz ops nx i o tm (look st) rs us v) → TrEx P C sz ops nx K (o :: os) i tm st prev := by
        intro hg hst
        obtain ⟨rs, us, v, rs1, ws1, w1, w2, w3, w4⟩ := RM.goT_ex _ _ _ _ _ hg
        exact main rs us v rs1 ws1 (hst _ _ _ w1) (by simpa using w3) (by simpa using w4) w2
      split at h
      · next hgd => exact run h (fun rs us v w => ⟨hd, by rw [hgd]; exact w⟩)
      · next j want hgd =>
        split at h
        · cases h
        · next d hdj =>
          split at h
          · next b hb =>
            have skip : b ≠ want → (match indepB ops o [] [] prev with
                | false => False
                | true => evOpsD P C sz ops nx os (i + 1) (putT tm o.dst vU) st ((i, o, [], []) :: prev) K) → TrEx P C sz ops nx K (o :: os) i tm st prev := fun hne hs => main [] [] vU [] [] ⟨hd, by rw [hgd]; exact ⟨d, hdj, .inl ⟨b, hb, by rw [if_neg hne]; exact ⟨rfl, rfl, rfl⟩⟩⟩⟩ (by simp) (by simp) hs
            have take : b = want → ((opR P C (nx + i) (ev tm) o.op).goT st [] [] (fun v st' rs ws => match indepB ops o rs ws prev with
                | false => False
                | true => evOpsD P C sz ops nx os (i + 1) (putT tm o.dst v) st' ((i, o, rs, ws) :: prev) K)) → TrEx P C sz ops nx K (o :: os) i tm st prev := fun he hg => run hg (fun rs us v w => ⟨hd, by rw [hgd]; exact ⟨d, hdj, .inl ⟨b, hb, by rw [if_pos he]; exact w⟩⟩⟩)
            cases want
            · obtain ⟨g1, g2⟩ := br_elim h
              cases b
              · exact take rfl (g2 rfl)
              · exact skip (by simp) (g1 rfl)
            · obtain ⟨g1, g2⟩ := br_elim h
              cases b
              · exact skip (by simp) (g2 rfl)
              · exact take rfl (g1 rfl)
          · next arr hb => exact main [] [] vU [] [] ⟨hd, by rw [hgd]; exact ⟨d, hdj, .inr ⟨⟨arr, hb⟩, rfl, rfl, rfl⟩⟩⟩ (by simp) (by simp) h
          · cases h
end
end Go.Ev
/- Regions whose order is open: whatever order the tape gives. -/
set_option linter.unusedVariables false
set_option linter.unusedSimpArgs false
namespace Go.Ev
open Go.RowKit

section
variable {P : Program} {C : FuncId → Option Con} {sz : Nat} {ops : Array Oper} {nx : Nat}

theorem Rel.congrT {O : Nat → Prop} {w0 : World} {F0 : FZ} {M0 : MP} {D : List Deferred} {U : Nat → Prop} {F : FZ} {m : MP} {sz : Nat} {tm tm' : TM} {st : ST} {a : Act} {w : World}
    (h : Rel O w0 F0 M0 D U F m sz tm st a w) (hl : Eqv tm' tm) : Rel O w0 F0 M0 D U F m sz tm' st a w :=
  { h with htm := fun i => by rw [hl i]; exact h.htm i }

/-- What is left to be done, while some are done. -/
structure Left (ops : Array Oper) (listed : Array Bool) (l : List (Nat × Oper)) (fs : List FP) : Prop where
  len : l.length = fs.length
  mem : ∀ i o, (i, o) ∈ l → ops[i]? = some o ∧ listed.getD i true = false
  all : ∀ i o, ops[i]? = some o → listed.getD i true = false → (i, o) ∈ l
  asc : l.Pairwise (fun p q => p.1 < q.1)
  free : ∀ (a b : Nat) (p q : Nat × Oper) (f g : FP), a < b → l[a]? = some p → l[b]? = some q → fs[a]? = some f → fs[b]? = some g → Free ops p q f g
  size : listed.size = ops.size

theorem getD_of_lt {listed : Array Bool} {i : Nat} (h : i < listed.size) (d d' : Bool) : listed.getD i d = listed.getD i d' := by
  simp [Array.getD, h]

theorem split_at {α : Type} : ∀ {l : List α} {x : α}, x ∈ l → ∃ l1 l2, l = l1 ++ x :: l2
  | y :: l, x, h => by
    cases h with
    | head => exact ⟨[], l, rfl⟩
    | tail _ h => obtain ⟨l1, l2, rfl⟩ := split_at h; exact ⟨y :: l1, l2, rfl⟩

theorem split_same {α β : Type} : ∀ {l1 : List α} {x : α} {l2 : List α} {fs : List β}, (l1 ++ x :: l2).length = fs.length → ∃ f1 f f2, fs = f1 ++ f :: f2 ∧ f1.length = l1.length ∧ f2.length = l2.length
  | [], x, l2, [], h => by simp at h
  | [], x, l2, f :: fs, h => ⟨[], f, fs, rfl, rfl, by simpa using h.symm⟩
  | y :: l1, x, l2, [], h => by simp at h
  | y :: l1, x, l2, f :: fs, h => by
    obtain ⟨f1, g, f2, rfl, h1, h2⟩ := split_same (l1 := l1) (x := x) (l2 := l2) (fs := fs) (by simpa using h)
    exact ⟨f :: f1, g, f2, rfl, by simp [h1], h2⟩

theorem anyOrder (hC : CtxOK P C) {FF : Fence} (hW : Wide FF) (hahead : ∀ i o, ops[i]? = some o → ∀ e ∈ o.after, Region.binds .any e = true → e.on < i) {O : Nat → Prop} {w0 : World} {F0 : FZ} {M0 : MP} {D : List Deferred} {Q : Exit → Act → World → Prop} {tmE : TM} {stE : ST}
    (hend : ∀ F m a w, Rel O w0 F0 M0 D (fun b => nx + ops.size ≤ b) F m sz tmE stE a w → Q .normal a w) :
    ∀ (n : Nat) (listed : Array Bool) (l : List (Nat × Oper)) (fs : List FP) (F : FZ) (m : MP) (tm : TM) (st : ST) (a : Act) (w : World), l.length = n → Left ops listed l fs →
      Rel O w0 F0 M0 D (fun b => nx ≤ b ∧ (b < nx + ops.size → listed.getD (b - nx) true = false)) F m sz tm st a w → TrD P C sz ops nx l tm st fs → Eqv (endTm l tm fs) tmE → Eqv (endSt fs st) stE →
      wpAnyIn FF 0 P .any ops Q n listed a w
  | 0, listed, l, fs, F, m, tm, st, a, w, hn, hL, h, ht, e1, e2 => by
    obtain rfl : l = [] := List.eq_nil_of_length_eq_zero hn
    obtain rfl : fs = [] := List.eq_nil_of_length_eq_zero (by rw [← hL.len]; rfl)
    have hr : Region.ready .any ops listed = [] := by
      cases hr : Region.ready .any ops listed with
      | nil => rfl
      | cons i rs =>
        obtain ⟨h1, o, ho, _⟩ := mem_ready.1 (show i ∈ Region.ready .any ops listed by rw [hr]; simp)
        cases hL.all i o ho h1
    exact ⟨hr, hend F m a w (((h.congrT fun j => (e1 j).symm).congr fun j => (e2 j).symm).weakU fun b hb => ⟨by omega, fun hb2 => by omega⟩)⟩
  | n + 1, listed, l, fs, F, m, tm, st, a, w, hn, hL, h, ht, e1, e2 => by
    refine ⟨fun hr => ?_, fun i hi => ?_⟩
    · -- some operation is ready
      exfalso
      match l, hn with
      | (i, o) :: l, _ =>
        obtain ⟨ho, hlist⟩ := hL.mem i o (by simp)
        have : i ∈ Region.ready .any ops listed := by
          refine mem_ready.2 ⟨hlist, o, ho, fun e he hb => ?_⟩
          have hlt := hahead i o ho e he hb
          have hi : i < ops.size := (Array.getElem?_eq_some_iff.1 ho).1
          have hel : e.on < listed.size := by rw [hL.size]; omega
          rw [getD_of_lt hel false true]
          cases hc : listed.getD e.on true with
          | true => rfl
          | false =>
            have hm := hL.all e.on ops[e.on] (by simp) hc
            have hasc := hL.asc
            simp only [List.pairwise_cons] at hasc
            rcases List.mem_cons.1 hm with hm | hm
            · have := congrArg Prod.fst hm; simp only at this; omega
            · have := hasc.1 _ hm; simp only at this; omega
        rw [hr] at this
        cases this
    · obtain ⟨hlist, o, ho, hpre⟩ := mem_ready.1 hi
      have hmem := hL.all i o ho hlist
      obtain ⟨l1, l2, rfl⟩ := split_at hmem
      obtain ⟨f1, f, f2, rfl, hl1, hl2⟩ := split_same hL.len
      have hi' : i < ops.size := (Array.getElem?_eq_some_iff.1 ho).1
      obtain ⟨q1, q2, q3⟩ := TrD_first hl1.symm ht (by
        intro k p g hp hg
        have hk : k < l1.length := (List.getElem?_eq_some_iff.1 hp).1
        have hfree := hL.free k l1.length p (i, o) g f hk (by rw [List.getElem?_append_left hk]; exact hp) (by simp) (by rw [List.getElem?_append_left (by omega)]; exact hg) (by rw [← hl1]; simp)
        rcases hfree with ⟨e, he, hb, hon⟩ | hind
        · exfalso
          obtain ⟨j, oj⟩ := p
          obtain ⟨_, hj⟩ := hL.mem j oj (List.mem_append.2 (.inl (List.mem_of_getElem? hp)))
          have := hpre e he hb
          simp only at hon
          subst hon
          have hjs : e.on < listed.size := by
            rw [hL.size]
            have := hahead i o ho e he hb
            omega
          rw [getD_of_lt hjs false true, hj] at this
          cases this
        · exact hind)
      obtain ⟨rs, us, v⟩ := f
      obtain ⟨s1, s2⟩ := q1
      obtain ⟨hd, hs⟩ := s1
      -- what is left behind this step
      have hL2 : Left ops (listed.setIfInBounds i true) (l1 ++ l2) (f1 ++ f2) := by
        have hne : ∀ j o', (j, o') ∈ l1 ++ l2 → j ≠ i := by
          intro j o' hm
          have hasc := hL.asc
          rw [List.pairwise_append] at hasc
          obtain ⟨_, a2, a3⟩ := hasc
          simp only [List.pairwise_cons] at a2
          rcases List.mem_append.1 hm with hm | hm
          · have := a3 _ hm (i, o) (by simp); simp only at this; omega
          · have := a2.1 _ hm; simp only at this; omega
        refine { len := by simp [hl1, hl2], mem := ?_, all := ?_, asc := ?_, free := ?_, size := by simp [hL.size] }
        · intro j o' hm
          obtain ⟨h1, h2⟩ := hL.mem j o' (by rcases List.mem_append.1 hm with hm | hm <;> simp [hm])
          refine ⟨h1, ?_⟩
          rw [Array.getD_eq_getD_getElem?, Array.getElem?_setIfInBounds_ne (fun e => hne j o' hm e.symm), ← Array.getD_eq_getD_getElem?]
          exact h2
        · intro j o' hj hl
          have hji : j ≠ i := by
            rintro rfl
            simp [Array.getD_eq_getD_getElem?, hL.size, hi'] at hl
          rw [Array.getD_eq_getD_getElem?, Array.getElem?_setIfInBounds_ne (fun e => hji e.symm), ← Array.getD_eq_getD_getElem?] at hl
          have := hL.all j o' hj hl
          rcases List.mem_append.1 this with hm | hm
          · exact List.mem_append.2 (.inl hm)
          · cases hm with
            | head => exact absurd rfl hji
            | tail _ hm => exact List.mem_append.2 (.inr hm)
        · have hasc := hL.asc
          exact hasc.sublist (List.Sublist.append_left (List.sublist_cons_self _ _) _)
        · intro x y p q f' g hxy hp hq hf hg
          -- positions with the step taken out
          have up : ∀ {α : Type} {A B : List α} {c : α} {k : Nat} {z : α}, (A ++ B)[k]? = some z → (A ++ c :: B)[if k < A.length then k else k + 1]? = some z := by
            intro α A B c k z hz
            by_cases hk : k < A.length
            · rw [if_pos hk, List.getElem?_append_left hk]
              rwa [List.getElem?_append_left hk] at hz
            · rw [if_neg hk, List.getElem?_append_right (by omega)]
              rw [List.getElem?_append_right (by omega)] at hz
              have : k + 1 - A.length = k - A.length + 1 := by omega
              rw [this, List.getElem?_cons_succ]
              exact hz
          have hp' := up (c := (i, o)) hp
          have hq' := up (c := (i, o)) hq
          have hf' := up (c := ((rs, us, v) : FP)) hf
          have hg' := up (c := ((rs, us, v) : FP)) hg
          rw [hl1] at hf' hg'
          refine hL.free _ _ p q f' g ?_ hp' hq' hf' hg'
          split <;> split <;> omega
      have hU : ∀ b, (nx ≤ b ∧ (b < nx + ops.size → (listed.setIfInBounds i true).getD (b - nx) true = false)) → (nx ≤ b ∧ (b < nx + ops.size → listed.getD (b - nx) true = false)) ∧ b ≠ nx + i := by
        rintro b ⟨h1, h2⟩
        have hne : b ≠ nx + i := by
          rintro rfl
          have := h2 (by omega)
          rw [show nx + i - nx = i by omega] at this
          simp [Array.getD_eq_getD_getElem?, hL.size, hi'] at this
        refine ⟨⟨h1, fun hb => ?_⟩, hne⟩
        have := h2 hb
        rw [Array.getD_eq_getD_getElem?, Array.getElem?_setIfInBounds_ne (by omega), ← Array.getD_eq_getD_getElem?] at this
        exact this
      have next : ∀ F' m' a' w', Rel O w0 F0 M0 D (fun b => (nx ≤ b ∧ (b < nx + ops.size → listed.getD (b - nx) true = false)) ∧ b ≠ nx + i) F' m' sz (putT tm o.dst v) (us ++ st) a' w' →
          wpAnyIn FF 0 P .any ops Q n (listed.setIfInBounds i true) a' w' := by
        intro F' m' a' w' hR
        exact anyOrder hC hW hahead hend n _ (l1 ++ l2) (f1 ++ f2) F' m' _ _ a' w' (by simp at hn ⊢; omega) hL2 (hR.weakU hU) s2 (fun j => (q2 j).trans (e1 j)) (fun j => (q3 j).trans (e2 j))
      have run : (opR P C (nx + i) (ev tm) o.op).ex (look st) rs us v → o.wpIn FF 0 P a w (wpAnyIn FF 0 P .any ops Q n (listed.setIfInBounds i true)) Q := by
        intro hx
        refine op_ok hC o h (id := nx + i) ⟨by omega, fun _ => by rw [show nx + i - nx = i by omega]; exact hlist⟩ hd
          (K := fun v' st' => v' = v ∧ st' = us ++ st) (RM.ex_go _ _ _ _ _ _ hx ⟨rfl, rfl⟩) ?_ FF hW
        rintro F' m' v' st' a' w' hR ⟨rfl, rfl⟩
        exact next F' m' a' w' hR
      unfold wpOpIn
      simp only [ho]
      cases hg : o.guard with
      | none =>
        have hw : Region.wanted o (yielded ops a.tmps) = true := by simp [Region.wanted, hg]
        rw [if_pos hw]
        rw [hg] at hs
        exact run hs
      | some jw =>
        obtain ⟨j, want⟩ := jw
        rw [hg] at hs
        obtain ⟨d, d1, ⟨b, d2, d3⟩ | ⟨⟨arr, d2⟩, rfl, rfl, rfl⟩⟩ := hs
        rotate_left
        · have hy := yielded_not h d1 d2
          have hw : ¬ Region.wanted o (yielded ops a.tmps) = true := by simp [Region.wanted, hg, hy]
          rw [if_neg hw]
          exact ⟨fun f _ => hW.fn f, next F m _ w ((h.weakU fun b hb => hb.1).put hd (c := vU) rfl)⟩
        have hy := yielded_of h d1 d2
        by_cases hbw : b = want
        · have hw : Region.wanted o (yielded ops a.tmps) = true := by simp [Region.wanted, hg, hy, hbw]
          rw [if_pos hw]
          rw [if_pos hbw] at d3
          exact run d3
        · have hw : ¬ Region.wanted o (yielded ops a.tmps) = true := by simp [Region.wanted, hg, hy, hbw]
          rw [if_neg hw]
          rw [if_neg hbw] at d3
          obtain ⟨rfl, rfl, rfl⟩ := d3
          exact ⟨fun f _ => hW.fn f, next F m _ w ((h.weakU fun b hb => hb.1).put hd (c := vU) rfl)⟩

theorem enumL_mem : ∀ {os : List Oper} {i k : Nat} {o : Oper}, (k, o) ∈ enumL i os ↔ i ≤ k ∧ os[k - i]? = some o
  | [], i, k, o => by simp [enumL]
  | o' :: os, i, k, o => by
    simp only [enumL, List.mem_cons, Prod.mk.injEq, enumL_mem (os := os)]
    constructor
    · rintro (⟨rfl, rfl⟩ | ⟨h1, h2⟩)
      · simp
      · refine ⟨by omega, ?_⟩
        rw [show k - i = k - (i + 1) + 1 by omega, List.getElem?_cons_succ]
        exact h2
    · rintro ⟨h1, h2⟩
      by_cases e : k = i
      · subst e; simp at h2; exact .inl ⟨rfl, h2.symm⟩
      · right
        refine ⟨by omega, ?_⟩
        rw [show k - i = k - (i + 1) + 1 by omega, List.getElem?_cons_succ] at h2
        exact h2

theorem enumL_asc : ∀ (os : List Oper) (i : Nat), (enumL i os).Pairwise (fun p q => p.1 < q.1)
  | [], i => by simp [enumL]
  | o :: os, i => by
    simp only [enumL, List.pairwise_cons]
    refine ⟨fun p hp => ?_, enumL_asc os (i + 1)⟩
    obtain ⟨k, o'⟩ := p
    have := (enumL_mem.1 hp).1
    simp only
    omega

/-- A REGION WHOSE ORDER IS OPEN. -/
theorem evOpsD_sound (hC : CtxOK P C) {FF : Fence} (hW : Wide FF) (hm : P.follows .mixedOrders = true) (hah : aheadB ops.toList = true) {O : Nat → Prop} {w0 : World} {F0 : FZ} {M0 : MP} {D : List Deferred} {Q : Exit → Act → World → Prop} {K : TM → ST → Prop} {id : Nat}
    {F : FZ} {m : MP} {tm : TM} {st : ST} {a : Act} {w : World} (h : Rel O w0 F0 M0 D (fun b => nx ≤ b) F m sz tm st a w) (hg : evOpsD P C sz ops nx ops.toList 0 tm st [] K)
    (hn : ∀ F' m' tm' st' a' w', Rel O w0 F0 M0 D (fun b => nx + ops.size ≤ b) F' m' sz tm' st' a' w' → K tm' st' → Q .normal a' w') : (Code.region id ops true).wpIn FF 0 P Q a w := by
  obtain ⟨fs, q1, q2, q3, q4, _⟩ := evOpsD_tr ops.toList 0 tm st [] hg
  refine wpIn_region_any hm ?_
  refine anyOrder hC hW ?_ (fun F' m' a' w' hR => hn F' m' _ _ a' w' hR q3) ops.size _ (enumL 0 ops.toList) fs F m tm st a _ (by rw [enumL_length]; simp) ?_ ?_ q2 (fun _ => rfl) (fun _ => rfl)
  · intro i o ho e he hb
    have := List.all_eq_true.1 hah (i, o) (enumL_mem.2 ⟨by omega, by simpa using ho⟩)
    simp only [Array.all_eq_true_iff_forall_mem] at this
    have := this e he
    simpa [hb] using this
  · refine { len := by rw [enumL_length, q1], mem := ?_, all := ?_, asc := enumL_asc _ _, free := q4, size := by simp }
    · intro i o hm
      obtain ⟨_, h2⟩ := enumL_mem.1 hm
      have h3 : ops[i]? = some o := by simpa using h2
      have hi : i < ops.size := (Array.getElem?_eq_some_iff.1 h3).1
      exact ⟨h3, by simp [Array.getD_eq_getD_getElem?, hi]⟩
    · intro i o ho _
      exact enumL_mem.2 ⟨by omega, by simpa using ho⟩
  · refine Rel.drew (h.weakU fun b hb => hb.1)
end
end Go.Ev
/- A run of the model follows the evaluator: code, functions. -/
set_option linter.unusedVariables false
set_option linter.unusedSimpArgs false
namespace Go.Ev
open Go.RowKit

section
variable {P : Program} {C : FuncId → Option Con}

theorem wide_wide : Wide Fence.wide := ⟨fun _ => trivial, rfl, rfl⟩

theorem awp_sound (hC : CtxOK P C) {FF : Fence} (hW : Wide FF) (hmix : P.follows .mixedOrders = true) {O : Nat → Prop} {w0 : World} {F0 : FZ} {M0 : MP} {D : List Deferred} {sz pins : Nat} (hp : ∀ b y, M0 b = some y → b < pins) : ∀ (c : Code) (Q : AX → TM → ST → Nat → Prop) (QQ : Exit → Act → World → Prop) (F : FZ) (m : MP) (tm : TM) (st : ST) (nx : Nat) (a : Act) (w : World),
    Rel O w0 F0 M0 D (fun b => nx ≤ b) F m sz tm st a w → awp P C sz pins c Q tm st nx → (∀ e a w, Post O w0 F0 M0 D sz Q e a w → QQ e a w) → c.wpIn FF 0 P QQ a w
  | .skip, Q, QQ, F, m, tm, st, nx, a, w, h, hg, hq => wpIn_skip (hq .normal a w ⟨F, m, tm, st, nx, h, hg⟩)
  | .region id ops false, Q, QQ, F, m, tm, st, nx, a, w, h, hg, hq => by
    refine wpIn_region ?_
    have := evOps_sound hC hW (ops := ops) (Q := QQ) ops.toList 0 nx F m tm st a w rfl h hg (by
      intro F' m' tm' st' a' w' hR hK
      exact hq .normal a' w' ⟨F', m', tm', st', _, by simpa using hR, hK⟩)
    simpa using this
  | .seq x y, Q, QQ, F, m, tm, st, nx, a, w, h, hg, hq => by
    refine wpIn_seq ?_
    refine awp_sound hC hW hmix hp x _ _ F m tm st nx a w h hg ?_
    intro e a' w' hpo
    cases e with
    | normal =>
      obtain ⟨F', m', tm', st', nx', hR, hK⟩ := hpo
      exact awp_sound hC hW hmix hp y Q QQ F' m' tm' st' nx' a' w' hR hK hq
    | exit id => exact hq (.exit id) a' w' hpo
    | ret => exact hq .ret a' w' hpo
    | goto l => exact hpo.elim
    | panic c => exact hpo.elim
    | outgrown => exact hpo.elim
  | .cond c x y, Q, QQ, F, m, tm, st, nx, a, w, h, hg, hq => by
    simp only [awp] at hg
    split at hg
    · next b hb =>
      have he := h.ev c
      rw [hb] at he
      have he' : a.eval c = .bool b := he
      obtain ⟨g1, g2⟩ := br_elim hg
      refine wpIn_cond he' ?_
      cases b with
      | true => exact awp_sound hC hW hmix hp x Q QQ F m tm st nx a w h (g1 rfl) hq
      | false => exact awp_sound hC hW hmix hp y Q QQ F m tm st nx a w h (g2 rfl) hq
    · cases hg
  | .block id c, Q, QQ, F, m, tm, st, nx, a, w, h, hg, hq => by
    refine wpIn_block ?_
    refine awp_sound hC hW hmix hp c _ _ F m tm st nx a w h hg ?_
    intro e a' w' hpo
    cases e with
    | normal => exact hq .normal a' w' hpo
    | exit j =>
      obtain ⟨F', m', tm', st', nx', hR, hK⟩ := hpo
      simp only [Exit.inBlock]
      by_cases hj : j = id
      · rw [if_pos hj]
        simp only [hj, decide_true] at hK
        exact hq .normal a' w' ⟨F', m', tm', st', nx', hR, hK⟩
      · rw [if_neg hj]
        simp only [hj, decide_false] at hK
        exact hq (.exit j) a' w' ⟨F', m', tm', st', nx', hR, hK⟩
    | ret => exact hq .ret a' w' hpo
    | goto l => exact hpo.elim
    | panic c => exact hpo.elim
    | outgrown => exact hpo.elim
  | .loop c, Q, QQ, F, m, tm, st, nx, a, w, h, hg, hq => by
    obtain ⟨α, mk, μ, ⟨x0, r0, h0⟩, hround⟩ := hg
    refine wpIn_loop_ghost (fun n a w => ∃ x F m, μ x = n ∧ Rel O w0 F0 M0 D (fun b => (mk x).nx ≤ b) F m sz (mk x).tm (mk x).st a w) (μ x0) ⟨x0, F, _, rfl, h.sub hp h0⟩ ?_
    rintro n a w ⟨x, F, m, rfl, hR⟩
    refine awp_sound hC hW hmix hp c _ _ F m _ _ _ a w hR (hround x) ?_
    intro e a' w' hpo
    cases e with
    | normal =>
      obtain ⟨F', m', tm', st', nx', hR', y, r, hs, hlt⟩ := hpo
      exact ⟨μ y, hlt, y, F', _, rfl, hR'.sub hp hs⟩
    | exit id => exact hq (.exit id) a' w' hpo
    | ret => exact hq .ret a' w' hpo
    | goto l => exact hpo.elim
    | panic c => exact hpo.elim
    | outgrown => exact hpo.elim
  | .exit id, Q, QQ, F, m, tm, st, nx, a, w, h, hg, hq => wpIn_exit (hq (.exit id) a w ⟨F, m, tm, st, nx, h, hg⟩)
  | .ret, Q, QQ, F, m, tm, st, nx, a, w, h, hg, hq => wpIn_ret (hq .ret a w ⟨F, m, tm, st, nx, h, hg⟩)
  | .region id ops true, Q, QQ, F, m, tm, st, nx, a, w, h, hg, hq => by
    simp only [awp] at hg
    split at hg
    · next hah =>
      exact evOpsD_sound hC hW hmix hah h hg fun F' m' tm' st' a' w' hR hK => hq .normal a' w' ⟨F', m', tm', st', _, hR, hK⟩
    · cases hg
  | .rangeFunc _ _ _ _, Q, QQ, F, m, tm, st, nx, a, w, h, hg, hq => by simp [awp] at hg
  | .scope _, Q, QQ, F, m, tm, st, nx, a, w, h, hg, hq => by simp [awp] at hg
  | .label _, Q, QQ, F, m, tm, st, nx, a, w, h, hg, hq => by simp [awp] at hg
  | .goto _, Q, QQ, F, m, tm, st, nx, a, w, h, hg, hq => by simp [awp] at hg
  | .refuse _, Q, QQ, F, m, tm, st, nx, a, w, h, hg, hq => by simp [awp] at hg

theorem RM.go_bind (f : V → RM) (K : V → ST → Prop) : ∀ (r : RM) (st : ST), (r.bind f).go st K ↔ r.go st (fun v st' => (f v).go st' K)
  | .fail, st => Iff.rfl
  | .ret v, st => Iff.rfl
  | .req p k, st => by simp only [RM.bind, RM.go, go_bind f K k]
  | @RM.dec p k _, st => by simp only [RM.bind, RM.go, go_bind f K k]
  | .exi _ p k, st => by simp only [RM.bind, RM.go, fun x => go_bind f K (k x)]
  | .get b k, st => by
    simp only [RM.bind, RM.go]
    split
    · exact go_bind f K _ _
    · exact Iff.rfl
  | .put b x k, st => by simp only [RM.bind, RM.go, go_bind f K k]

/-- What a function's results read as. -/
def resOne (tmps : Array Value) : ResultVar → Sem Value
  | .tmp t => pure (tmps.getD t undef)
  | .cell a t => do loadVar t (← asAddr (tmps.getD a undef))

def packV : List Value → Value
  | [v] => v
  | vs => .tuple vs.toArray

theorem results_eq (fn : Func) (tmps : Array Value) (w : World) (vs : List Value) (h : (fn.results.toList.mapM (resOne tmps)).run P w = .ok vs w) :
    (results fn tmps).run P w = .ok (packV vs) w := by
  have e : fn.results.mapM (resOne tmps) = List.toArray <$> fn.results.toList.mapM (resOne tmps) := by
    conv => lhs; rw [show fn.results = fn.results.toList.toArray by simp]
    rw [List.mapM_toArray]
  show Sem.run P (do let vs ← fn.results.mapM (resOne tmps); pure (if h : vs.size = 1 then vs[0] else .tuple vs)) w = _
  rw [e]
  simp only [Sem.run_bind, Sem.run_map, h, Result.andThen_ok, Sem.run_pure]
  congr 1
  match vs with
  | [] => rfl
  | [v] => rfl
  | v :: v' :: vs => simp [packV]

theorem resR_sound {O : Nat → Prop} {w0 : World} {F0 : FZ} {M0 : MP} {D : List Deferred} {U : Nat → Prop} {m : MP} {sz : Nat} {tm : TM} {a : Act} {w : World} {K : V → ST → Prop} : ∀ (l : List ResultVar) (acc : List V) (vs : List Value) (F : FZ) (st : ST),
    Rel O w0 F0 M0 D U F m sz tm st a w → (resR P tm l acc).go st K → acc.length = vs.length → (∀ (i : Nat) (c : V) (x : Value), acc[i]? = some c → vs[i]? = some x → RV m F w.heap c x) →
    ∃ F' st' vs' c, Rel O w0 F0 M0 D U F' m sz tm st' a w ∧ (l.mapM (resOne a.tmps)).run P w = .ok vs' w ∧ RC F' w.heap c (packV (vs ++ vs')) ∧ K c st'
  | [], acc, vs, F, st, h, hg, hl, hv => by
    simp only [resR] at hg
    match acc, vs, hl with
    | [c], [x], _ =>
      obtain ⟨F1, st1, c1, r1, e1, r2, r3, _⟩ := fz_sound 4 c x _ st F K h (hv 0 c x rfl rfl) hg
      exact ⟨F1, st1, [], c1, r1, by simp, r2, r3⟩
    | [], [], _ =>
      obtain ⟨F1, st1, cs1, r1, e1, r2, r3, _⟩ := mapRM_sound (fz_sound 4) [] [] _ st F K h rfl (by simp) hg
      exact ⟨F1, st1, [], .tup cs1, r1, by simp, ⟨_, rfl, r2⟩, r3⟩
    | c :: d :: acc, x :: y :: vs, hl =>
      obtain ⟨F1, st1, cs1, r1, e1, r2, r3, _⟩ := mapRM_sound (fz_sound 4) (c :: d :: acc) (x :: y :: vs) _ st F K h hl hv hg
      exact ⟨F1, st1, [], .tup cs1, r1, by simp, ⟨(x :: y :: vs).toArray, by simp [packV], by simpa using r2⟩, r3⟩
  | .tmp t :: l, acc, vs, F, st, h, hg, hl, hv => by
    simp only [resR] at hg
    obtain ⟨F1, st1, vs1, c, r1, r2, r3, r4⟩ := resR_sound l (acc ++ [(look tm t).getD .top]) (vs ++ [a.tmps.getD t undef]) F st h hg (by simp [hl]) (by
      intro i c x hc hx
      by_cases hi : i < acc.length
      · rw [List.getElem?_append_left hi] at hc
        rw [List.getElem?_append_left (by omega)] at hx
        exact hv i c x hc hx
      · rw [List.getElem?_append_right (by omega)] at hc
        rw [List.getElem?_append_right (by omega), ← hl] at hx
        cases hi0 : i - acc.length with
        | zero => rw [hi0] at hc hx; simp at hc hx; subst hc hx; have := h.htm t; rwa [Array.getD_eq_getD_getElem?] at this
        | succ n => rw [hi0] at hc; simp at hc)
    refine ⟨F1, st1, a.tmps.getD t undef :: vs1, c, r1, ?_, by simpa using r3, r4⟩
    simp [List.mapM_cons, resOne, r2]
  | .cell p t :: l, acc, vs, F, st, h, hg, hl, hv => by
    simp only [resR] at hg
    rw [RM.go_bind] at hg
    obtain ⟨F0', st0, c0, v0, h0, e0, hrun, hv0, hg⟩ := load_sound (P := P) h hg
    obtain ⟨F1, st1, vs1, c, r1, r2, r3, r4⟩ := resR_sound l (acc ++ [c0]) (vs ++ [v0]) F0' st0 h0 hg (by simp [hl]) (by
      intro i c x hc hx
      by_cases hi : i < acc.length
      · rw [List.getElem?_append_left hi] at hc
        rw [List.getElem?_append_left (by omega)] at hx
        exact (hv i c x hc hx).mono (fun _ _ e => e) e0 (Keeps.refl _ _)
      · rw [List.getElem?_append_right (by omega)] at hc
        rw [List.getElem?_append_right (by omega), ← hl] at hx
        cases hi0 : i - acc.length with
        | zero => rw [hi0] at hc hx; simp at hc hx; subst hc hx; exact hv0
        | succ n => rw [hi0] at hc; simp at hc)
    refine ⟨F1, st1, v0 :: vs1, c, r1, ?_, by simpa using r3, r4⟩
    have hld : (resOne a.tmps (.cell p t)).run P w = .ok v0 w := by
      have e : a.eval (.tmp p) = a.tmps.getD p undef := rfl
      rw [e] at hrun
      simp only [resOne]
      cases hp : a.tmps.getD p undef with
      | pointer q =>
        rw [hp] at hrun
        cases q with
        | some q => simpa [asAddr, Instr.loadAt, Instr.sureAddr] using hrun
        | none => simp [Instr.loadAt, Instr.sureAddr, Result.andThen] at hrun
      | _ => rw [hp] at hrun; simp [Instr.loadAt, Instr.sureAddr, Result.andThen] at hrun
    simp [List.mapM_cons, hld, r2]

/-- The state at a function's begin. -/
def startT (avs : List V) : TM := (List.range avs.length).zip avs

theorem look_start : ∀ (avs : List V) (k i : Nat), look (((List.range' k avs.length)).zip avs) i = if k ≤ i then avs[i - k]? else none
  | [], k, i => by simp
  | c :: avs, k, i => by
    simp only [List.length_cons, List.range'_succ, List.zip_cons_cons, look_cons, look_start avs (k + 1) i]
    by_cases h : k = i
    · subst h; simp
    · rw [if_neg h]
      by_cases h2 : k + 1 ≤ i
      · rw [if_pos h2, if_pos (by omega)]
        have : i - k = i - (k + 1) + 1 := by omega
        rw [this, List.getElem?_cons_succ]
      · rw [if_neg h2, if_neg (by omega)]

/-- The boxes at a function's begin. -/
def startS (ps : List Bx) : ST := (List.range ps.length).zip ps

theorem look_starts : ∀ (ps : List Bx) (k i : Nat), look (((List.range' k ps.length)).zip ps) i = if k ≤ i then ps[i - k]? else none
  | [], k, i => by simp
  | c :: ps, k, i => by
    simp only [List.length_cons, List.range'_succ, List.zip_cons_cons, look_cons, look_starts ps (k + 1) i]
    by_cases h : k = i
    · subst h; simp
    · rw [if_neg h]
      by_cases h2 : k + 1 ≤ i
      · rw [if_pos h2, if_pos (by omega)]
        have : i - k = i - (k + 1) + 1 := by omega
        rw [this, List.getElem?_cons_succ]
      · rw [if_neg h2, if_neg (by omega)]

theorem look_startS (ps : List Bx) (i : Nat) : look (startS ps) i = ps[i]? := by
  unfold startS
  rw [List.range_eq_range', look_starts ps 0 i]
  simp

/-- The boxes at a function's end. -/
def postB : Nat → List Bx → ST → Prop
  | _, [], _ => True
  | i, p :: ps, st => look st i = some p ∧ postB (i + 1) ps st

theorem postB_get : ∀ {ps : List Bx} {k : Nat} {st : ST}, postB k ps st → ∀ (i : Nat) (p : Bx), ps[i]? = some p → look st (k + i) = some p
  | [], _, _, _, i, p, h => by simp at h
  | q :: ps, k, st, ⟨h1, h2⟩, i, p, h => by
    cases i with
    | zero => simp at h; subst h; exact h1
    | succ i =>
      have := postB_get h2 i p (by simpa using h)
      rwa [show k + 1 + i = k + (i + 1) by omega] at this

/-- A FUNCTION: what the evaluator says of its body holds of its calls. -/
theorem soundV_of_awp (hC : CtxOK P C) (hmix : P.follows .mixedOrders = true) {f : FuncId} {fn : Func} {c : Code} (hf : P.funcs[f]? = some fn) (hb : fn.body = some c) {con : Con}
    (h : ∀ x, con.ok x → (con.enc x).length ≤ fn.ntmps ∧ awp P C fn.ntmps 0 c (fun e tm st nx => match e with
      | .exit _ => False
      | _ => (resR P tm fn.results.toList []).go st fun r _ => r = con.res x) (startT (con.enc x)) [] 0) : SoundV P f con := by
  intro x F w vs hF hv hok
  obtain ⟨hlen, hawp⟩ := h x hok
  generalize havs : con.enc x = avs at hlen hawp hv
  have hl := RCs_length hv
  refine callsIn_wide.1 (callsIn_of_wp (n := 0) hf hb trivial ?_)
  have hR : Rel (fun g => w.heap.size ≤ g) w F (fun _ => none) [] (fun b => 0 ≤ b) F (fun _ => none) fn.ntmps (startT avs) [] { tmps := vs.toArray ++ Array.replicate (fn.ntmps - vs.toArray.size) undef, defers := [] } w := by
    refine { htm := fun i => ?_, hsz := by simp; omega, hde := rfl, nst := ⟨_, NOK.nil⟩, hst := fun b x hx => by simp at hx, inj := fun b b' g c c' _ _ hm => (by cases hm), fresh := fun b _ => ⟨rfl, rfl⟩, pin := fun b y e => (by cases e), keep := Keeps.refl _ _, f0 := fun _ _ e => e, f1 := fun _ _ e => .inl e, f2 := hF, mlt := fun b g c hm => (by cases hm), below := Own.refl _ _, hb := fun _ e => e }
    have e : look (startT avs) i = avs[i]? := by
      unfold startT
      rw [List.range_eq_range', look_start avs 0 i]
      simp
    rw [e]
    cases hi : avs[i]? with
    | none => exact trivial
    | some c =>
      have hil : i < avs.length := (List.getElem?_eq_some_iff.1 hi).1
      have hx : vs[i]? = some (vs[i]'(by omega)) := List.getElem?_eq_getElem (by omega)
      have := ((RCs_iff.1 hv).2 i c _ hi hx).1
      simp only [Option.getD_some]
      have e2 : (vs.toArray ++ Array.replicate (fn.ntmps - vs.toArray.size) undef).getD i undef = vs[i]'(by omega) := by
        rw [Array.getD_eq_getD_getElem?, Array.getElem?_append_left (by simp; omega)]
        simp [hx]
      rw [e2]
      exact RV.of_RC this
  refine awp_sound (pins := 0) hC wide_wide hmix (fun b y e => by cases e) c _ _ F _ _ _ 0 _ w hR hawp ?_
  have fin : ∀ (a' : Act) (w' : World) (F' : FZ) (m' : MP) (tm' : TM) (st' : ST) (nx' : Nat), Rel (fun g => w.heap.size ≤ g) w F (fun _ => none) [] (fun b => nx' ≤ b) F' m' fn.ntmps tm' st' a' w' → (resR P tm' fn.results.toList []).go st' (fun r _ => r = con.res x) →
      a'.defers = [] ∧ ∃ v, (results fn a'.tmps).run P w' = .ok v w' ∧ ∃ v_1 F', Ending.returned v = Ending.returned v_1 ∧ Below w.heap.size w w' ∧ (∀ g j, F g j → F' g j) ∧ (∀ g j, F' g j → F g j ∨ w.heap.size ≤ g) ∧ (∀ g j, F' g j → g < w'.heap.size) ∧ RC F' w'.heap (con.res x) v_1 := by
    intro a' w' F' m' tm' st' nx' hR' hg
    obtain ⟨F1, st1, vs1, c1, r1, r2, r3, r4⟩ := resR_sound fn.results.toList [] [] F' st' hR' hg rfl (by simp)
    subst r4
    exact ⟨hR'.hde, _, results_eq fn a'.tmps w' vs1 r2, _, F1, rfl, r1.below.below, r1.f0, r1.f1, r1.f2, r3⟩
  intro e a' w' hpo
  cases e with
  | normal => obtain ⟨F', m', tm', st', nx', hR', hg⟩ := hpo; exact fin a' w' F' m' tm' st' nx' hR' hg
  | ret => obtain ⟨F', m', tm', st', nx', hR', hg⟩ := hpo; exact fin a' w' F' m' tm' st' nx' hR' hg
  | exit id => obtain ⟨F', m', tm', st', nx', hR', hg⟩ := hpo; exact hg.elim
  | goto l => exact hpo.elim
  | panic c => exact hpo.elim
  | outgrown => exact hpo.elim

theorem soundE_of_awp (hC : CtxOK P C) (hmix : P.follows .mixedOrders = true) {f : FuncId} {fn : Func} {c : Code} (hf : P.funcs[f]? = some fn) (hb : fn.body = some c) {con : Con} {e : Eff con.α}
    (h : ∀ x, con.ok x → (con.enc x).length ≤ fn.ntmps ∧ awp P C fn.ntmps (e.pre x).length c (fun en tm st nx => match en with
      | .exit _ => False
      | _ => (resR P tm fn.results.toList []).go st fun r st' => r = con.res x ∧ postB 0 (e.post x) st') (startT (con.enc x)) (startS (e.pre x)) (e.pre x).length) : SoundE P f con e := by
  intro x m F w vs hF hm hl hv hpre hinj hok
  obtain ⟨hlen, hawp⟩ := h x hok
  generalize havs : con.enc x = avs at hlen hawp hv hl
  refine callsIn_wide.1 (callsIn_of_wp (n := 0) hf hb trivial ?_)
  have hR : Rel (Handed m w) w F m [] (fun b => (e.pre x).length ≤ b) F m fn.ntmps (startT avs) (startS (e.pre x)) { tmps := vs.toArray ++ Array.replicate (fn.ntmps - vs.toArray.size) undef, defers := [] } w := by
    refine { htm := fun i => ?_, hsz := by simp; omega, hde := rfl, nst := nok_none fun b p hp => (hpre b p (by rwa [look_startS] at hp)).2, hst := fun b p hp => (hpre b p (by rwa [look_startS] at hp)).1, inj := fun b b' g c c' _ _ h1 h2 => hinj b b' g c c' h1 h2, fresh := fun b hb => ⟨?_, ?_⟩, pin := fun b y e => e, keep := Keeps.refl _ _, f0 := fun _ _ e => e, f1 := fun _ _ e => .inl e, f2 := hF, mlt := fun b g c hm' => (hm b g c hm').2, below := Own.refl _ _, hb := fun _ e => .inr e }
    · have e : look (startT avs) i = avs[i]? := by
        unfold startT
        rw [List.range_eq_range', look_start avs 0 i]
        simp
      rw [e]
      cases hi : avs[i]? with
      | none => exact trivial
      | some c =>
        have hil : i < avs.length := (List.getElem?_eq_some_iff.1 hi).1
        have hx : vs[i]? = some (vs[i]'(by omega)) := List.getElem?_eq_getElem (by omega)
        have := hv i c _ hi hx
        simp only [Option.getD_some]
        have e2 : (vs.toArray ++ Array.replicate (fn.ntmps - vs.toArray.size) undef).getD i undef = vs[i]'(by omega) := by
          rw [Array.getD_eq_getD_getElem?, Array.getElem?_append_left (by simp; omega)]
          simp [hx]
        rw [e2]
        exact this
    · rw [look_startS]; exact List.getElem?_eq_none hb
    · cases hb' : m b with
      | none => rfl
      | some y => have := (hm b y.1 y.2 hb').1; omega
  refine awp_sound (pins := (e.pre x).length) hC wide_wide hmix (fun b y hy => (hm b y.1 y.2 hy).1) c _ _ F _ _ _ _ _ w hR hawp ?_
  have fin : ∀ (a' : Act) (w' : World) (F' : FZ) (m' : MP) (tm' : TM) (st' : ST) (nx' : Nat), Rel (Handed m w) w F m [] (fun b => nx' ≤ b) F' m' fn.ntmps tm' st' a' w' → (resR P tm' fn.results.toList []).go st' (fun r st2 => r = con.res x ∧ postB 0 (e.post x) st2) →
      a'.defers = [] ∧ ∃ v, (results fn a'.tmps).run P w' = .ok v w' ∧ ∃ v_1 F' m', Ending.returned v = Ending.returned v_1 ∧ Own (Handed m w) w w' ∧ Keeps F w.heap w'.heap ∧ (∀ b y, m b = some y → m' b = some y) ∧ (∀ g j, F g j → F' g j) ∧ (∀ g j, F' g j → F g j ∨ Handed m w g) ∧
      (∀ g j, F' g j → g < w'.heap.size) ∧ RC F' w'.heap (con.res x) v_1 ∧ ∀ (i : Nat) (p : Bx), (e.post x)[i]? = some p → RBx (Handed m w) m' F' w'.heap i p := by
    intro a' w' F' m' tm' st' nx' hR' hg
    obtain ⟨F1, st1, vs1, c1, r1, r2, r3, r4, r5⟩ := resR_sound fn.results.toList [] [] F' st' hR' hg rfl (by simp)
    subst r4
    refine ⟨hR'.hde, _, results_eq fn a'.tmps w' vs1 r2, _, F1, m', rfl, r1.below, r1.keep, r1.pin, r1.f0, r1.f1, r1.f2, r3, fun i p hp => ?_⟩
    have := postB_get r5 i p hp
    rw [Nat.zero_add] at this
    exact r1.hst i p this
  intro en a' w' hpo
  cases en with
  | normal => obtain ⟨F', m', tm', st', nx', hR', hg⟩ := hpo; exact fin a' w' F' m' tm' st' nx' hR' hg
  | ret => obtain ⟨F', m', tm', st', nx', hR', hg⟩ := hpo; exact fin a' w' F' m' tm' st' nx' hR' hg
  | exit id => obtain ⟨F', m', tm', st', nx', hR', hg⟩ := hpo; exact hg.elim
  | goto l => exact hpo.elim
  | panic c => exact hpo.elim
  | outgrown => exact hpo.elim

end
end Go.Ev
/- Contracts at hand. -/
set_option linter.unusedVariables false
set_option linter.unusedSimpArgs false
namespace Go.Ev

def ctx : List (FuncId × Con) → FuncId → Option Con
  | [], _ => none
  | (g, c) :: l, f => match Nat.beq g f with
    | true => some c
    | false => ctx l f

theorem ctx_nil {P : Program} : CtxOK P (ctx []) := fun _ _ h => by cases h
theorem ctx_cons {P : Program} {g : FuncId} {c : Con} {l : List (FuncId × Con)} (h : Sound P g c ∧ EntersOK P g) (k : CtxOK P (ctx l)) : CtxOK P (ctx ((g, c) :: l)) := by
  intro f c' hf
  simp only [ctx] at hf
  split at hf
  · next hb => have := Nat.eq_of_beq_eq_true hb; subst this; cases hf; exact h
  · exact k f c' hf

/-- A contract, and that the function is entered. -/
def Has (P : Program) (f : FuncId) (c : Con) : Prop := Sound P f c ∧ EntersOK P f

theorem has_of {P : Program} {C : FuncId → Option Con} (hC : CtxOK P C) (hmix : P.follows .mixedOrders = true) {f : FuncId} {fn : Func} {c : Code} (hf : P.funcs[f]? = some fn) (hb : fn.body = some c)
    (hn : (fn.name == "runtime.NumGoroutine") = false) {con : Con}
    (h : ∀ x, con.ok x → (con.enc x).length ≤ fn.ntmps ∧ awp P C fn.ntmps 0 c (fun e tm st nx => match e with
      | .exit _ => False
      | _ => (resR P tm fn.results.toList []).go st fun r _ => r = con.res x) (startT (con.enc x)) [] 0) (he : con.eff = none := by rfl) (hr : con.frs = .keep := by rfl) : Has P f con :=
  ⟨by simp only [Sound, he, hr]; exact soundV_of_awp hC hmix hf hb h, enters_ok hf hn (by simp [hb])⟩

theorem has_ofE {P : Program} {C : FuncId → Option Con} (hC : CtxOK P C) (hmix : P.follows .mixedOrders = true) {f : FuncId} {fn : Func} {c : Code} (hf : P.funcs[f]? = some fn) (hb : fn.body = some c)
    (hn : (fn.name == "runtime.NumGoroutine") = false) {con : Con} {e : Eff con.α}
    (h : ∀ x, con.ok x → (con.enc x).length ≤ fn.ntmps ∧ awp P C fn.ntmps (e.pre x).length c (fun en tm st nx => match en with
      | .exit _ => False
      | _ => (resR P tm fn.results.toList []).go st fun r st' => r = con.res x ∧ postB 0 (e.post x) st') (startT (con.enc x)) (startS (e.pre x)) (e.pre x).length) (he : con.eff = some e := by rfl) : Has P f con :=
  ⟨by simp only [Sound, he]; exact soundE_of_awp hC hmix hf hb h, enters_ok hf hn (by simp [hb])⟩

/-- What is asked at a function's end. -/
def endV (P : Program) (fn : Func) (r : V) (e : AX) (tm : TM) (st : ST) (nx : Nat) : Prop := match e with
  | .exit _ => False
  | _ => (resR P tm fn.results.toList []).go st fun r' _ => r' = r
def endE (P : Program) (fn : Func) (r : V) (ps : List Bx) (e : AX) (tm : TM) (st : ST) (nx : Nat) : Prop := match e with
  | .exit _ => False
  | _ => (resR P tm fn.results.toList []).go st fun r' st' => r' = r ∧ postB 0 ps st'

/-- A function by its body: to be followed where it is called. -/
def cRun (P : Program) (C : FuncId → Option Con) (fn : Func) (c : Code) : Con := { α := List V × V, enc := Prod.fst, ok := fun x => x.1.length ≤ fn.ntmps ∧ awp P C fn.ntmps 0 c (endV P fn x.2) (startT x.1) [] 0, res := Prod.snd }
theorem has_run {P : Program} {C : FuncId → Option Con} (hC : CtxOK P C) (hmix : P.follows .mixedOrders = true) {f : FuncId} {fn : Func} {c : Code} (hf : P.funcs[f]? = some fn) (hb : fn.body = some c)
    (hn : (fn.name == "runtime.NumGoroutine") = false) : Has P f (cRun P C fn c) := has_of hC hmix hf hb hn fun x hx => hx

structure RunE where
  args : List V
  pre : List Bx
  res : V
  post : List Bx
/-- The same, with boxes handed over. -/
def cRunE (P : Program) (C : FuncId → Option Con) (fn : Func) (c : Code) (own : List Bool) : Con := { α := RunE, enc := RunE.args, ok := fun x => x.args.length ≤ fn.ntmps ∧ awp P C fn.ntmps x.pre.length c (endE P fn x.res x.post) (startT x.args) (startS x.pre) x.pre.length, res := RunE.res, eff := some ⟨own, RunE.pre, RunE.post⟩ }
theorem has_runE {P : Program} {C : FuncId → Option Con} (hC : CtxOK P C) (hmix : P.follows .mixedOrders = true) {f : FuncId} {fn : Func} {c : Code} (hf : P.funcs[f]? = some fn) (hb : fn.body = some c)
    (hn : (fn.name == "runtime.NumGoroutine") = false) (own : List Bool) : Has P f (cRunE P C fn c own) := has_ofE (e := ⟨own, RunE.pre, RunE.post⟩) hC hmix hf hb hn fun x hx => hx

/-- The bool of a value. -/
def isT : V → Bool
  | .v (.bool b) => b
  | _ => false

theorem iEq {a b : Int} {k : IntKind} (h : a = b) : some (V.v (.int k a)) = some (V.v (.int k b)) := by rw [h]
theorem wrap_ok {n : Int} (h : -9223372036854775808 ≤ n) (h' : n ≤ 9223372036854775807) : n = IntKind.i64.wrap n := (IntWalk.i64_in n ⟨h, h'⟩).symm

theorem wrap_succ {k : Nat} (h : k < 9223372036854775807) : ((k + 1 : Nat) : Int) = IntKind.i64.wrap ((k : Int) + 1) := by
  rw [← wrap_ok (n := (k : Int) + 1) (by omega) (by omega)]
  rfl

/-- Neither a box nor a closure. -/
def plain : V → Bool
  | .box _ _ => false
  | .osl _ _ => false
  | .yld _ => false
  | .fn _ _ => false
  | .ag _ => false
  | _ => true

theorem ren_caps {caps : List V} (h : caps.all plain = true) (r : List (Nat × Nat)) : caps.mapM (renP r) = some caps := by
  induction caps with
  | nil => rfl
  | cons c caps ih =>
    simp only [List.all_cons, Bool.and_eq_true] at h
    have e : renP r c = some c := by
      have h1 := h.1
      clear ih h
      cases c <;> first | rfl | (simp [plain] at h1)
    simp [List.mapM_cons, e, ih h.2]

theorem ren_fn {g : FuncId} {caps : List V} (h : caps.all plain = true) (r : List (Nat × Nat)) : renV r (.fn g caps) = some (.fn g caps) := by
  simp [renV, ren_caps h]

theorem fzs_plain {k : List V → RM} : ∀ {l : List V}, l.all plain = true → fzs l k = k l := by
  have key : ∀ (l : List V) (k : List V → RM), l.all plain = true → mapRM (fz 4) l k = k l := by
    intro l
    induction l with
    | nil => intro k _; rfl
    | cons c l ih =>
      intro k h
      simp only [List.all_cons, Bool.and_eq_true] at h
      have e : ∀ k, fz 4 c k = k c := by
        intro k
        have h1 := h.1
        clear ih h
        cases c <;> first | rfl | (simp [plain] at h1)
      rw [mapRM, e, ih _ h.2]
  intro l h
  exact key l k h

/-- A call of a closure that is known by its contract alone. -/
theorem go_call {P : Program} {C : FuncId → Option Con} {id : Nat} {ρ : Operand → V} {f : Operand} {args : Array Operand} {ts : Array TypeId} {st : ST} {K : V → ST → Prop} {g : FuncId} {caps avs : List V} {c : Con} {y : c.α}
    (hf : ρ f = .fn g caps) (hc : C g = some c) (hce : c.eff = none) (hp : caps.all plain = true) (ha : args.toList.map ρ = avs) (hap : avs.all plain = true) (he : c.enc y = avs ++ caps) (hok : c.ok y)
    (hk : (RM.retF (c.res y)).go st K) (hcf : c.frs = .keep := by rfl) : (opR P C id ρ (.call { callee := .value f, args := args, argTypes := ts })).go st K := by
  simp only [opR, hf, hc, hce, hcf, ha]
  rw [fzs_plain (by rw [List.all_append, hap, hp]; rfl)]
  exact ⟨y, ⟨levs_eq he.symm, hok⟩, hk⟩
end Go.Ev
/- Slices of records; a condition for all elements. -/
set_option linter.unusedVariables false
set_option linter.unusedSimpArgs false
namespace Go.Ev

/-- Numbers of 64 bits. -/
abbrev wr (n : Int) : Int := IntKind.i64.wrap n

/-- The cells of a slice of records. -/
def recs {α : Type} (enc : α → List V) (l : List α) : List V := l.flatMap enc

theorem recs_length {α : Type} {enc : α → List V} {s : Nat} (h : ∀ a, (enc a).length = s) (l : List α) : (recs enc l).length = l.length * s := by
  induction l with
  | nil => simp [recs]
  | cons a l ih => simp only [recs, List.flatMap_cons, List.length_append, h, List.length_cons] at ih ⊢; rw [ih, Nat.add_mul]; omega

theorem rlen {α : Type} {enc : α → List V} {s : Nat} (h : ∀ a, (enc a).length = s) (l : List α) : l.length * s = (recs enc l).length := (recs_length h l).symm
theorem recs_drop {α : Type} {enc : α → List V} {s : Nat} (h : ∀ a, (enc a).length = s) (l : List α) (k : Nat) : (recs enc l).drop (k * s) = recs enc (l.drop k) := by
  induction l generalizing k with
  | nil => simp [recs]
  | cons a l ih =>
    cases k with
    | zero => simp
    | succ k =>
      have e : (k + 1) * s = (enc a).length + k * s := by rw [h, Nat.add_mul]; omega
      rw [show recs enc (a :: l) = enc a ++ recs enc l from rfl, e, ← List.drop_drop, List.drop_left, ih]
      rfl

theorem recs_get {α : Type} {enc : α → List V} {s : Nat} (h : ∀ a, (enc a).length = s) (l : List α) (k : Nat) (hk : k < l.length) : ((recs enc l).drop (k * s)).take s = enc l[k] := by
  rw [recs_drop h, List.drop_eq_getElem_cons hk]
  rw [show recs enc (l[k] :: l.drop (k + 1)) = enc l[k] ++ recs enc (l.drop (k + 1)) from rfl, ← h l[k], List.take_left]

theorem recs_pre {α : Type} {enc : α → List V} {s : Nat} (h : ∀ a, (enc a).length = s) {l : List α} {k : Nat} (hk : k < l.length) (hs : 0 < s) :
    0 ≤ (k : Int) ∧ (k : Int) < (l.length : Int) ∧ l.length * s = (recs enc l).length ∧ 0 < s := by
  rw [recs_length h]; omega

theorem recs_load {α : Type} {enc : α → List V} {s : Nat} (h : ∀ a, (enc a).length = s) {l : List α} {k : Nat} (hk : k < l.length) : 0 + s ≤ ((recs enc l).drop (k * s)).length := by
  rw [recs_drop h, recs_length h, List.length_drop]
  have : 1 * s ≤ (l.length - k) * s := Nat.mul_le_mul_right s (by omega)
  omega

theorem all_false {α : Type} {l : List α} {p : α → Bool} {k : Nat} (h : k < l.length) (hp : p l[k] = false) : l.all p = false := by
  cases e : l.all p with
  | false => rfl
  | true => rw [List.all_eq_true] at e; rw [e l[k] (by simp)] at hp; cases hp

structure Every (α : Type) where
  l : List α
  g : FuncId
  caps : List V
  p : α → Bool
def cEvery {α : Type} (enc : α → List V) (C : FuncId → Option Con) : Con := { α := Every α, enc := fun x => [.sl (recs enc x.l) x.l.length, .fn x.g x.caps], ok := fun x => x.l.length ≤ 140737488355328 ∧ x.caps.all plain = true ∧ ∃ c, C x.g = some c ∧ c.eff = none ∧ ∀ e ∈ x.l, ∃ y, c.enc y = .agg (enc e) :: x.caps ∧ c.ok y ∧ c.res y = (V.v (.bool (x.p e))), res := fun x => (V.v (.bool (x.l.all x.p))) }

theorem foldl_take {α β : Type} (f : β → α → β) (b : β) (l : List α) (k : Nat) (h : k < l.length) : (l.take (k + 1)).foldl f b = f ((l.take k).foldl f b) l[k] := by
  rw [List.take_succ_eq_append_getElem h, List.foldl_append]
  rfl


/-- A part of a record. -/
theorem recs_sub {α : Type} {enc : α → List V} {s : Nat} (h : ∀ a, (enc a).length = s) (l : List α) (k o n : Nat) (hk : k < l.length) (hn : o + n ≤ s) :
    (((recs enc l).drop (k * s)).drop o).take n = ((enc l[k]).drop o).take n := by
  rw [← recs_get h l k hk, List.drop_take, List.take_take, Nat.min_eq_left (by omega)]
theorem recs_sub_len {α : Type} {enc : α → List V} {s : Nat} (h : ∀ a, (enc a).length = s) {l : List α} {k o n : Nat} (hk : k < l.length) (hn : o + n ≤ s) :
    0 + n ≤ (((recs enc l).drop (k * s)).drop o).length := by
  have := recs_load (s := s) h hk
  rw [List.length_drop]; omega
theorem recs_set {α : Type} {enc : α → List V} {s : Nat} (h : ∀ a, (enc a).length = s) (l : List α) (k : Nat) (x : α) (hk : k < l.length) :
    (recs enc l).take (k * s) ++ enc x ++ (recs enc l).drop (k * s + s) = recs enc (l.set k x) := by
  have e1 : (recs enc l).take (k * s) = recs enc (l.take k) := by
    have : recs enc l = recs enc (l.take k) ++ recs enc (l.drop k) := by
      simp only [recs, ← List.flatMap_append, List.take_append_drop]
    rw [this, ← show (recs enc (l.take k)).length = k * s by rw [recs_length h, List.length_take, Nat.min_eq_left (by omega)], List.take_left]
  have e2 : k * s + s = (k + 1) * s := by rw [Nat.add_mul]; omega
  rw [e1, e2, recs_drop h, List.set_eq_take_append_cons_drop, if_pos hk]
  simp [recs, List.flatMap_append]
theorem recs_replicate {α : Type} {enc : α → List V} (x : α) (n : Nat) : (List.replicate n (enc x)).flatten = recs enc (List.replicate n x) := by
  induction n with
  | zero => rfl
  | succ n ih => simp [List.replicate_succ, recs] at ih ⊢; exact ih

theorem recs_cell {α : Type} {enc : α → List V} {s : Nat} (h : ∀ a, (enc a).length = s) (l : List α) (k o : Nat) (hk : k < l.length) (ho : o < s) :
    (((((recs enc l).drop (k * s)).drop o)[0]?).getD .top) = (((enc l[k])[o]?).getD .top) := by
  have e := recs_sub h l k o 1 hk (by omega)
  have e1 : ((((recs enc l).drop (k * s)).drop o).take 1)[0]? = ((((enc l[k]).drop o)).take 1)[0]? := by rw [e]
  rw [List.getElem?_take, List.getElem?_take, if_pos (by decide), if_pos (by decide)] at e1
  rw [e1, List.getElem?_drop, Nat.add_zero]

theorem go_cell {α : Type} {enc : α → List V} {s : Nat} (h : ∀ a, (enc a).length = s) {l : List α} {k o : Nat} {v : V} (hk : k < l.length) (ho : o < s) (hv : (((enc l[k])[o]?).getD .top) = v) {d : Decidable (0 < (((recs enc l).drop (k * s)).drop o).length)} {K : V → ST → Prop} {st : ST}
    (hn : (RM.retF v).go st K) : (@RM.dec (0 < (((recs enc l).drop (k * s)).drop o).length) (RM.retF (((((recs enc l).drop (k * s)).drop o)[0]?).getD .top)) d).go st K := by
  refine ⟨?_, ?_⟩
  · have := recs_sub_len (s := s) (o := o) (n := 1) h hk (by omega); omega
  · rw [recs_cell h l k o hk ho, hv]; exact hn
theorem goT_cell {α : Type} {enc : α → List V} {s : Nat} (h : ∀ a, (enc a).length = s) {l : List α} {k o : Nat} {v : V} (hk : k < l.length) (ho : o < s) (hv : (((enc l[k])[o]?).getD .top) = v) {d : Decidable (0 < (((recs enc l).drop (k * s)).drop o).length)} {K : V → ST → List Nat → List Nat → Prop} {st : ST} {rs ws : List Nat}
    (hn : (RM.retF v).goT st rs ws K) : (@RM.dec (0 < (((recs enc l).drop (k * s)).drop o).length) (RM.retF (((((recs enc l).drop (k * s)).drop o)[0]?).getD .top)) d).goT st rs ws K := by
  refine ⟨?_, ?_⟩
  · have := recs_sub_len (s := s) (o := o) (n := 1) h hk (by omega); omega
  · rw [recs_cell h l k o hk ho, hv]; exact hn

theorem goT_cell2 {α : Type} {enc : α → List V} {s : Nat} (h : ∀ a, (enc a).length = s) {l : List α} {k o o2 : Nat} {v : V} (hk : k < l.length) (ho : o + o2 < s) (hv : (((enc l[k])[o + o2]?).getD .top) = v) {d : Decidable (0 < ((((recs enc l).drop (k * s)).drop o).drop o2).length)} {K : V → ST → List Nat → List Nat → Prop} {st : ST} {rs ws : List Nat}
    (hn : (RM.retF v).goT st rs ws K) : (@RM.dec (0 < ((((recs enc l).drop (k * s)).drop o).drop o2).length) (RM.retF ((((((recs enc l).drop (k * s)).drop o).drop o2)[0]?).getD .top)) d).goT st rs ws K := by
  refine ⟨?_, ?_⟩
  · have := recs_sub_len (s := s) (o := o + o2) (n := 1) h hk (by omega); rw [List.drop_drop]; omega
  · rw [List.drop_drop, recs_cell h l k (o + o2) hk ho, hv]; exact hn
theorem go_cell2 {α : Type} {enc : α → List V} {s : Nat} (h : ∀ a, (enc a).length = s) {l : List α} {k o o2 : Nat} {v : V} (hk : k < l.length) (ho : o + o2 < s) (hv : (((enc l[k])[o + o2]?).getD .top) = v) {d : Decidable (0 < ((((recs enc l).drop (k * s)).drop o).drop o2).length)} {K : V → ST → Prop} {st : ST}
    (hn : (RM.retF v).go st K) : (@RM.dec (0 < ((((recs enc l).drop (k * s)).drop o).drop o2).length) (RM.retF ((((((recs enc l).drop (k * s)).drop o).drop o2)[0]?).getD .top)) d).go st K := by
  refine ⟨?_, ?_⟩
  · have := recs_sub_len (s := s) (o := o + o2) (n := 1) h hk (by omega); rw [List.drop_drop]; omega
  · rw [List.drop_drop, recs_cell h l k (o + o2) hk ho, hv]; exact hn
end Go.Ev
/- Steps of the evaluator, one at a time: what follows is not looked into. -/
set_option linter.unusedVariables false
set_option linter.unusedSimpArgs false
namespace Go.Ev

section
variable {P : Program} {C : FuncId → Option Con} {sz pins nx id : Nat} {tm : TM} {st : ST}

theorem go_ret {K : V → ST → Prop} {v : V} (h : K v st) : (RM.ret v).go st K := h
theorem go_req {K : V → ST → Prop} {p : Prop} {d : Decidable p} {k : RM} (hp : p) (h : k.go st K) : (@RM.dec p k d).go st K := ⟨hp, h⟩
theorem go_reqP {K : V → ST → Prop} {p : Prop} {k : RM} (hp : p) (h : k.go st K) : (RM.req p k).go st K := ⟨hp, h⟩
theorem go_get {K : V → ST → Prop} {b : Nat} {k : Bx → RM} {x : Bx} (hx : look st b = some x) (h : (k x).go st K) : (RM.get b k).go st K := by
  simp only [RM.go, hx]; exact h
theorem go_put {K : V → ST → Prop} {b : Nat} {x : Bx} {k : RM} (h : k.go ((b, x) :: st) K) : (RM.put b x k).go st K := h
theorem go_exi {K : V → ST → Prop} {α : Type} {p : α → Prop} {k : α → RM} (x : α) (hp : p x) (h : (k x).go st K) : (RM.exi α p k).go st K := ⟨x, hp, h⟩

theorem ops_nil {all : List Oper} {K : TM → ST → Prop} (h : K tm st) : evOps P C sz all [] id tm st K := h
theorem ops_cons {all : List Oper} {o : Oper} {os : List Oper} {K : TM → ST → Prop} (hd : okDst sz o.dst = true) (hg : o.guard = none)
    (h : (opR P C id (ev tm) o.op).go st fun v st' => evOps P C sz all os (id + 1) (putT tm o.dst v) st' K) : evOps P C sz all (o :: os) id tm st K := by
  unfold evOps
  simp only [hd, hg]
  exact h
theorem ops_take {all : List Oper} {o : Oper} {os : List Oper} {K : TM → ST → Prop} {j d : Nat} {want : Bool} (hd : okDst sz o.dst = true) (hg : o.guard = some (j, want)) (hj : (all[j]?).bind (·.dst) = some d) (hl : (look tm d).getD .top = .v (.bool want))
    (h : (opR P C id (ev tm) o.op).go st fun v st' => evOps P C sz all os (id + 1) (putT tm o.dst v) st' K) : evOps P C sz all (o :: os) id tm st K := by
  unfold evOps
  simp only [hd, hg, hj, hl]
  cases want with
  | true => exact h
  | false => exact h
theorem ops_skip {all : List Oper} {o : Oper} {os : List Oper} {K : TM → ST → Prop} {j d : Nat} {want : Bool} (hd : okDst sz o.dst = true) (hg : o.guard = some (j, want)) (hj : (all[j]?).bind (·.dst) = some d) (hl : (look tm d).getD .top = .v (.bool !want))
    (h : evOps P C sz all os (id + 1) (putT tm o.dst vU) st K) : evOps P C sz all (o :: os) id tm st K := by
  unfold evOps
  simp only [hd, hg, hj, hl]
  cases want with
  | true => exact h
  | false => exact h
theorem ops_skipU {all : List Oper} {o : Oper} {os : List Oper} {K : TM → ST → Prop} {j d : Nat} {want : Bool} {arr : Array Value} (hd : okDst sz o.dst = true) (hg : o.guard = some (j, want)) (hj : (all[j]?).bind (·.dst) = some d) (hl : (look tm d).getD .top = .v (.tuple arr))
    (h : evOps P C sz all os (id + 1) (putT tm o.dst vU) st K) : evOps P C sz all (o :: os) id tm st K := by
  unfold evOps
  simp only [hd, hg, hj, hl]
  exact h
/-- An open test. -/
theorem ops_test {all : List Oper} {o : Oper} {os : List Oper} {K : TM → ST → Prop} {j d : Nat} {want b : Bool} (hd : okDst sz o.dst = true) (hg : o.guard = some (j, want)) (hj : (all[j]?).bind (·.dst) = some d) (hl : (look tm d).getD .top = .v (.bool b))
    (h1 : b = want → (opR P C id (ev tm) o.op).go st fun v st' => evOps P C sz all os (id + 1) (putT tm o.dst v) st' K) (h2 : b = (!want) → evOps P C sz all os (id + 1) (putT tm o.dst vU) st K) : evOps P C sz all (o :: os) id tm st K := by
  unfold evOps
  simp only [hd, hg, hj, hl]
  cases want with
  | true => exact br_intro h1 h2
  | false => exact br_intro h2 h1

def seqK (P : Program) (C : FuncId → Option Con) (sz pins : Nat) (b : Code) (Q : AX → TM → ST → Nat → Prop) (e : AX) (tm : TM) (st : ST) (nx : Nat) : Prop := match e with
  | .normal => awp P C sz pins b Q tm st nx
  | e => Q e tm st nx
def blockK (id : Nat) (Q : AX → TM → ST → Nat → Prop) (e : AX) (tm : TM) (st : ST) (nx : Nat) : Prop := match e with
  | .exit j => match decide (j = id) with
    | true => Q .normal tm st nx
    | false => Q (.exit j) tm st nx
  | e => Q e tm st nx
def loopK (pins : Nat) {α : Type} (mk : α → LS) (μ : α → Nat) (x : α) (Q : AX → TM → ST → Nat → Prop) (e : AX) (tm : TM) (st : ST) (nx : Nat) : Prop := match e with
  | .normal => ∃ y r, Sub pins r (mk y).tm (mk y).st (mk y).nx tm st ∧ μ y < μ x
  | e => Q e tm st nx

variable {Q : AX → TM → ST → Nat → Prop} {a b c : Code}
theorem st_skip (h : Q .normal tm st nx) : awp P C sz pins .skip Q tm st nx := h
theorem st_region {i : Nat} {ops : Array Oper} {l : List Oper} {nx' : Nat} (hl : ops.toList = l) (hn : nx + ops.size = nx') (h : evOps P C sz l l nx tm st fun tm' st' => Q .normal tm' st' nx') : awp P C sz pins (.region i ops false) Q tm st nx := by
  subst hl hn
  exact h
theorem st_regionD {i : Nat} {ops : Array Oper} (ha : aheadB ops.toList = true) (h : evOpsD P C sz ops nx ops.toList 0 tm st [] fun tm' st' => Q .normal tm' st' (nx + ops.size)) : awp P C sz pins (.region i ops true) Q tm st nx := by
  simp only [awp, ha]
  exact h
theorem st_seq (h : awp P C sz pins a (seqK P C sz pins b Q) tm st nx) : awp P C sz pins (.seq a b) Q tm st nx := h
theorem st_cond {x : Operand} {p : Bool} (hc : ev tm x = .v (.bool p)) (h1 : p = true → awp P C sz pins a Q tm st nx) (h2 : p = false → awp P C sz pins b Q tm st nx) : awp P C sz pins (.cond x a b) Q tm st nx := by
  simp only [awp, hc]
  exact br_intro h1 h2
theorem st_condT {x : Operand} (hc : ev tm x = .v (.bool true)) (h1 : awp P C sz pins a Q tm st nx) : awp P C sz pins (.cond x a b) Q tm st nx := st_cond hc (fun _ => h1) (fun e => by cases e)
theorem st_condF {x : Operand} (hc : ev tm x = .v (.bool false)) (h1 : awp P C sz pins b Q tm st nx) : awp P C sz pins (.cond x a b) Q tm st nx := st_cond hc (fun e => by cases e) (fun _ => h1)
theorem st_block {i : Nat} (h : awp P C sz pins a (blockK i Q) tm st nx) : awp P C sz pins (.block i a) Q tm st nx := h
theorem st_exit {i : Nat} (h : Q (.exit i) tm st nx) : awp P C sz pins (.exit i) Q tm st nx := h
theorem st_ret (h : Q .ret tm st nx) : awp P C sz pins .ret Q tm st nx := h
theorem st_loop {α : Type} {mk : α → LS} {μ : α → Nat} (h0 : ∃ x r, Sub pins r (mk x).tm (mk x).st (mk x).nx tm st) (h : ∀ x, awp P C sz pins a (loopK pins mk μ x Q) (mk x).tm (mk x).st (mk x).nx) : awp P C sz pins (.loop a) Q tm st nx := ⟨α, mk, μ, h0, h⟩

theorem k_seq (h : awp P C sz pins b Q tm st nx) : seqK P C sz pins b Q .normal tm st nx := h
theorem k_seqX {i : Nat} (h : Q (.exit i) tm st nx) : seqK P C sz pins b Q (.exit i) tm st nx := h
theorem k_seqR (h : Q .ret tm st nx) : seqK P C sz pins b Q .ret tm st nx := h
theorem k_block {i : Nat} (h : Q .normal tm st nx) : blockK i Q .normal tm st nx := h
theorem k_blockX {i : Nat} (h : Q .normal tm st nx) : blockK i Q (.exit i) tm st nx := by simp only [blockK, decide_true]; exact h
theorem k_blockY {i j : Nat} (hj : decide (j = i) = false) (h : Q (.exit j) tm st nx) : blockK i Q (.exit j) tm st nx := by simp only [blockK, hj]; exact h
theorem k_blockR {i : Nat} (h : Q .ret tm st nx) : blockK i Q .ret tm st nx := h
theorem k_loop {α : Type} {mk : α → LS} {μ : α → Nat} {x : α} (y : α) (r : List (Nat × Nat)) (hs : Sub pins r (mk y).tm (mk y).st (mk y).nx tm st) (hl : μ y < μ x) : loopK pins mk μ x Q .normal tm st nx := ⟨y, r, hs, hl⟩
theorem k_loopX {α : Type} {mk : α → LS} {μ : α → Nat} {x : α} {i : Nat} (h : Q (.exit i) tm st nx) : loopK pins mk μ x Q (.exit i) tm st nx := h
theorem k_loopR {α : Type} {mk : α → LS} {μ : α → Nat} {x : α} (h : Q .ret tm st nx) : loopK pins mk μ x Q .ret tm st nx := h

/-! regions whose order is open -/
variable {rs ws : List Nat}
theorem goT_ret {K : V → ST → List Nat → List Nat → Prop} {v : V} (h : K v st rs ws) : (RM.ret v).goT st rs ws K := h
theorem goT_req {K : V → ST → List Nat → List Nat → Prop} {p : Prop} {d : Decidable p} {k : RM} (hp : p) (h : k.goT st rs ws K) : (@RM.dec p k d).goT st rs ws K := ⟨hp, h⟩
theorem goT_reqP {K : V → ST → List Nat → List Nat → Prop} {p : Prop} {k : RM} (hp : p) (h : k.goT st rs ws K) : (RM.req p k).goT st rs ws K := ⟨hp, h⟩
theorem goT_get {K : V → ST → List Nat → List Nat → Prop} {b : Nat} {k : Bx → RM} {x : Bx} (hx : look st b = some x) (h : (k x).goT st (b :: rs) ws K) : (RM.get b k).goT st rs ws K := by
  simp only [RM.goT, hx]; exact h
theorem goT_put {K : V → ST → List Nat → List Nat → Prop} {b : Nat} {x : Bx} {k : RM} (h : k.goT ((b, x) :: st) rs (b :: ws) K) : (RM.put b x k).goT st rs ws K := h
theorem goT_exi {K : V → ST → List Nat → List Nat → Prop} {α : Type} {p : α → Prop} {k : α → RM} (x : α) (hp : p x) (h : (k x).goT st rs ws K) : (RM.exi α p k).goT st rs ws K := ⟨x, hp, h⟩

def dK (P : Program) (C : FuncId → Option Con) (sz : Nat) (ops : Array Oper) (nx : Nat) (o : Oper) (os : List Oper) (i : Nat) (tm : TM) (prev : List (Nat × Oper × List Nat × List Nat)) (K : TM → ST → Prop) (v : V) (st : ST) (rs ws : List Nat) : Prop :=
  match indepB ops o rs ws prev with
  | false => False
  | true => evOpsD P C sz ops nx os (i + 1) (putT tm o.dst v) st ((i, o, rs, ws) :: prev) K

variable {ops : Array Oper} {o : Oper} {os : List Oper} {i : Nat} {prev : List (Nat × Oper × List Nat × List Nat)} {K : TM → ST → Prop}
theorem d_step {v : V} (hi : indepB ops o rs ws prev = true) (h : evOpsD P C sz ops nx os (i + 1) (putT tm o.dst v) st ((i, o, rs, ws) :: prev) K) : dK P C sz ops nx o os i tm prev K v st rs ws := by
  simp only [dK, hi]; exact h
theorem d_nil (h : K tm st) : evOpsD P C sz ops nx [] i tm st prev K := h
theorem d_cons (hd : okDst sz o.dst = true) (hg : o.guard = none) (h : (opR P C (nx + i) (ev tm) o.op).goT st [] [] (dK P C sz ops nx o os i tm prev K)) : evOpsD P C sz ops nx (o :: os) i tm st prev K := by
  unfold evOpsD
  simp only [hd, hg]
  exact h
theorem d_take {j d : Nat} {want : Bool} (hd : okDst sz o.dst = true) (hg : o.guard = some (j, want)) (hj : (ops.toList[j]?).bind (·.dst) = some d) (hl : (look tm d).getD .top = .v (.bool want))
    (h : (opR P C (nx + i) (ev tm) o.op).goT st [] [] (dK P C sz ops nx o os i tm prev K)) : evOpsD P C sz ops nx (o :: os) i tm st prev K := by
  unfold evOpsD
  simp only [hd, hg, hj, hl]
  cases want with
  | true => exact h
  | false => exact h
theorem d_skip {j d : Nat} {want : Bool} (hd : okDst sz o.dst = true) (hg : o.guard = some (j, want)) (hj : (ops.toList[j]?).bind (·.dst) = some d) (hl : (look tm d).getD .top = .v (.bool !want)) (hi : indepB ops o [] [] prev = true)
    (h : evOpsD P C sz ops nx os (i + 1) (putT tm o.dst vU) st ((i, o, [], []) :: prev) K) : evOpsD P C sz ops nx (o :: os) i tm st prev K := by
  unfold evOpsD
  simp only [hd, hg, hj, hl]
  cases want with
  | true => simp only [Bool.not_true, br, hi]; exact h
  | false => simp only [Bool.not_false, br, hi]; exact h
theorem d_skipU {j d : Nat} {want : Bool} {arr : Array Value} (hd : okDst sz o.dst = true) (hg : o.guard = some (j, want)) (hj : (ops.toList[j]?).bind (·.dst) = some d) (hl : (look tm d).getD .top = .v (.tuple arr)) (hi : indepB ops o [] [] prev = true)
    (h : evOpsD P C sz ops nx os (i + 1) (putT tm o.dst vU) st ((i, o, [], []) :: prev) K) : evOpsD P C sz ops nx (o :: os) i tm st prev K := by
  unfold evOpsD
  simp only [hd, hg, hj, hl, hi]
  exact h
theorem d_test {j d : Nat} {want b : Bool} (hd : okDst sz o.dst = true) (hg : o.guard = some (j, want)) (hj : (ops.toList[j]?).bind (·.dst) = some d) (hl : (look tm d).getD .top = .v (.bool b)) (hi : indepB ops o [] [] prev = true)
    (h1 : b = want → (opR P C (nx + i) (ev tm) o.op).goT st [] [] (dK P C sz ops nx o os i tm prev K)) (h2 : b = (!want) → evOpsD P C sz ops nx os (i + 1) (putT tm o.dst vU) st ((i, o, [], []) :: prev) K) : evOpsD P C sz ops nx (o :: os) i tm st prev K := by
  unfold evOpsD
  simp only [hd, hg, hj, hl]
  cases want with
  | true => exact br_intro h1 (fun e => by simp only [hi]; exact h2 e)
  | false => exact br_intro (fun e => by simp only [hi]; exact h2 e) h1
end
end Go.Ev
/- Functions over typed data, and runs that follow them. -/
set_option linter.unusedVariables false
set_option linter.unusedSimpArgs false
namespace Go.Ev
open Go.RowKit

/-- Do something with the goal, and go on. -/
theorem stp {p q : Prop} (h : q) (c : q → p) : p := c h

/-- Rounds of a loop, fewer than n. -/
def loopN {S E : Type} (step : S → Option (S ⊕ E)) : Nat → S → Option E
  | 0, _ => none
  | n + 1, s => match step s with
    | none => none
    | some (.inl s') => loopN step n s'
    | some (.inr e) => some e

theorem loopN_succ {S E : Type} {step : S → Option (S ⊕ E)} : ∀ {n : Nat} {s : S} {e : E}, loopN step n s = some e → loopN step (n + 1) s = some e
  | 0, _, _, h => by cases h
  | n + 1, s, e, h => by
    unfold loopN at h ⊢
    split at h
    · cases h
    · exact loopN_succ h
    · exact h
theorem loopN_le {S E : Type} {step : S → Option (S ⊕ E)} {n m : Nat} (hm : n ≤ m) {s : S} {e : E} (h : loopN step n s = some e) : loopN step m s = some e := by
  induction hm with
  | refl => exact h
  | step _ ih => exact loopN_succ ih

open Classical in
/-- A loop, as long as it needs. -/
noncomputable def loopC {S E : Type} (step : S → Option (S ⊕ E)) (s : S) : Option E :=
  if h : ∃ n e, loopN step n s = some e then some h.choose_spec.choose else none

theorem loopC_of {S E : Type} {step : S → Option (S ⊕ E)} {s : S} {n : Nat} {e : E} (h : loopN step n s = some e) : loopC step s = some e := by
  have hx : ∃ n e, loopN step n s = some e := ⟨n, e, h⟩
  unfold loopC
  rw [dif_pos hx]
  have h1 := loopN_le (Nat.le_max_left n hx.choose) h
  have h2 := loopN_le (Nat.le_max_right n hx.choose) hx.choose_spec.choose_spec
  rw [h1] at h2
  exact h2.symm
theorem loopC_ex {S E : Type} {step : S → Option (S ⊕ E)} {s : S} {e : E} (h : loopC step s = some e) : ∃ n, loopN step n s = some e := by
  unfold loopC at h
  split at h
  · next hx =>
    obtain rfl := Option.some.inj h
    exact ⟨_, hx.choose_spec.choose_spec⟩
  · cases h
theorem loopC_eq {S E : Type} (step : S → Option (S ⊕ E)) (s : S) : loopC step s = match step s with
    | none => none
    | some (.inl s') => loopC step s'
    | some (.inr e) => some e := by
  cases hs : step s with
  | none =>
    cases h : loopC step s with
    | none => rfl
    | some e => obtain ⟨n, hn⟩ := loopC_ex h; cases n with
      | zero => cases hn
      | succ n => simp [loopN, hs] at hn
  | some o =>
    cases o with
    | inr e => exact loopC_of (n := 1) (by simp [loopN, hs])
    | inl s' =>
      simp only
      cases h : loopC step s' with
      | some e => obtain ⟨n, hn⟩ := loopC_ex h; exact loopC_of (n := n + 1) (by simp [loopN, hs, hn])
      | none =>
        cases h2 : loopC step s with
        | none => rfl
        | some e =>
          obtain ⟨n, hn⟩ := loopC_ex h2
          cases n with
          | zero => cases hn
          | succ n => simp only [loopN, hs] at hn; rw [loopC_of hn] at h; cases h

/-- What a round does next, n rounds at most. -/
def nextF {S E R : Type} (step : S → Option (S ⊕ E)) (K : E → Option R) (n : Nat) : S ⊕ E → Option R
  | .inl s' => (loopN step n s').bind K
  | .inr e => K e

/-! what a function says -/
theorem e_bind {A B R : Type} {g : Option A} {K : A → Option B} {J : B → Option R} {r : R} (h : (g.bind K).bind J = some r) : ∃ y, g = some y ∧ (K y).bind J = some r := by
  cases g with
  | none => cases h
  | some y => exact ⟨y, rfl, h⟩
theorem e_bif {B R : Type} {b : Bool} {x y : Option B} {J : B → Option R} {r : R} (h : (bif b then x else y).bind J = some r) : (b = true ∧ x.bind J = some r) ∨ (b = false ∧ y.bind J = some r) := by
  cases b with
  | true => exact .inl ⟨rfl, h⟩
  | false => exact .inr ⟨rfl, h⟩
theorem e_assoc {A B R : Type} {g : Option A} {K : A → Option B} {J : B → Option R} {r : R} (h : (g.bind K).bind J = some r) : g.bind (fun a => (K a).bind J) = some r := by
  cases g with
  | none => cases h
  | some y => exact h

def endW (P : Program) (fn : Func) (r : V) (e : AX) (tm : TM) (st : ST) (nx : Nat) : Prop := match e with
  | .exit _ => False
  | _ => (resR P tm fn.results.toList []).go st fun r' _ => LeV r' r

theorem soundW_of_awp {P : Program} {C : FuncId → Option Con} (hC : CtxOK P C) (hmix : P.follows .mixedOrders = true) {f : FuncId} {fn : Func} {c : Code} (hf : P.funcs[f]? = some fn) (hb : fn.body = some c) {con : Con}
    (h : ∀ x, con.ok x → (con.enc x).length ≤ fn.ntmps ∧ awp P C fn.ntmps 0 c (fun e tm st nx => match e with
      | .exit _ => False
      | _ => (resR P tm fn.results.toList []).go st fun r _ => LeV r (con.res x)) (startT (con.enc x)) [] 0) : SoundV P f con := by
  intro x F w vs hF hv hok
  obtain ⟨hlen, hawp⟩ := h x hok
  generalize havs : con.enc x = avs at hlen hawp hv
  have hl := RCs_length hv
  refine callsIn_wide.1 (callsIn_of_wp (n := 0) hf hb trivial ?_)
  have hR : Rel (fun g => w.heap.size ≤ g) w F (fun _ => none) [] (fun b => 0 ≤ b) F (fun _ => none) fn.ntmps (startT avs) [] { tmps := vs.toArray ++ Array.replicate (fn.ntmps - vs.toArray.size) undef, defers := [] } w := by
    refine { htm := fun i => ?_, hsz := by simp; omega, hde := rfl, nst := ⟨_, NOK.nil⟩, hst := fun b x hx => by simp at hx, inj := fun b b' g c c' _ _ hm => (by cases hm), fresh := fun b _ => ⟨rfl, rfl⟩, pin := fun b y e => (by cases e), keep := Keeps.refl _ _, f0 := fun _ _ e => e, f1 := fun _ _ e => .inl e, f2 := hF, mlt := fun b g c hm => (by cases hm), below := Own.refl _ _, hb := fun _ e => e }
    have e : look (startT avs) i = avs[i]? := by
      unfold startT
      rw [List.range_eq_range', look_start avs 0 i]
      simp
    rw [e]
    cases hi : avs[i]? with
    | none => exact trivial
    | some c =>
      have hil : i < avs.length := (List.getElem?_eq_some_iff.1 hi).1
      have hx : vs[i]? = some (vs[i]'(by omega)) := List.getElem?_eq_getElem (by omega)
      have := ((RCs_iff.1 hv).2 i c _ hi hx).1
      simp only [Option.getD_some]
      have e2 : (vs.toArray ++ Array.replicate (fn.ntmps - vs.toArray.size) undef).getD i undef = vs[i]'(by omega) := by
        rw [Array.getD_eq_getD_getElem?, Array.getElem?_append_left (by simp; omega)]
        simp [hx]
      rw [e2]
      exact RV.of_RC this
  refine awp_sound (pins := 0) hC wide_wide hmix (fun b y e => by cases e) c _ _ F _ _ _ 0 _ w hR hawp ?_
  have fin : ∀ (a' : Act) (w' : World) (F' : FZ) (m' : MP) (tm' : TM) (st' : ST) (nx' : Nat), Rel (fun g => w.heap.size ≤ g) w F (fun _ => none) [] (fun b => nx' ≤ b) F' m' fn.ntmps tm' st' a' w' → (resR P tm' fn.results.toList []).go st' (fun r _ => LeV r (con.res x)) →
      a'.defers = [] ∧ ∃ v, (results fn a'.tmps).run P w' = .ok v w' ∧ ∃ v_1 F', Ending.returned v = Ending.returned v_1 ∧ Below w.heap.size w w' ∧ (∀ g j, F g j → F' g j) ∧ (∀ g j, F' g j → F g j ∨ w.heap.size ≤ g) ∧ (∀ g j, F' g j → g < w'.heap.size) ∧ RC F' w'.heap (con.res x) v_1 := by
    intro a' w' F' m' tm' st' nx' hR' hg
    obtain ⟨F1, st1, vs1, c1, r1, r2, r3, r4⟩ := resR_sound fn.results.toList [] [] F' st' hR' hg rfl (by simp)
    exact ⟨hR'.hde, _, results_eq fn a'.tmps w' vs1 r2, _, F1, rfl, r1.below.below, r1.f0, r1.f1, r1.f2, r4.le _ _ _ r3⟩
  intro e a' w' hpo
  cases e with
  | normal => obtain ⟨F', m', tm', st', nx', hR', hg⟩ := hpo; exact fin a' w' F' m' tm' st' nx' hR' hg
  | ret => obtain ⟨F', m', tm', st', nx', hR', hg⟩ := hpo; exact fin a' w' F' m' tm' st' nx' hR' hg
  | exit id => obtain ⟨F', m', tm', st', nx', hR', hg⟩ := hpo; exact hg.elim
  | goto l => exact hpo.elim
  | panic c => exact hpo.elim
  | outgrown => exact hpo.elim

/-- What is asked of a list that a function makes. -/
def endR (fn : Func) (ty : TypeId) (size : Nat) (r : V) (e : AX) (tm : TM) (st : ST) (nx : Nat) : Prop := match e with
  | .exit _ => False
  | _ => match fn.results.toList with
    | [.tmp t] => (∃ b n cs, (look tm t).getD .top = .osl b n ∧ look st b = some (.row ty size cs 0) ∧ n * size = cs.length ∧ r = .sl cs n) ∨ ((look tm t).getD .top = .v (.slice none 0 0) ∧ r = .sl [] 0)
    | _ => False

theorem fresh_end {O : Nat → Prop} {w0 : World} {F0 : FZ} {M0 : MP} {D : List Deferred} {U : Nat → Prop} {F : FZ} {m : MP} {sz : Nat} {tm : TM} {st : ST} {a : Act} {w : World} (h : Rel O w0 F0 M0 D U F m sz tm st a w) {k : Nat} (hO : ∀ g, O g → k ≤ g)
    {c : V} {x : Value} (hx : RV m F w.heap c x) {ty : TypeId} {size n : Nat} {cs : List V}
    (he : (∃ b n' cs', c = .osl b n' ∧ look st b = some (.row ty size cs' 0) ∧ n' * size = cs'.length ∧ V.sl cs n = .sl cs' n') ∨ (c = .v (.slice none 0 0) ∧ V.sl cs n = .sl [] 0)) : FreshV F k w.heap ty size cs n x := by
  rcases he with ⟨b, n', cs', rfl, hl, hn, hr⟩ | ⟨rfl, hr⟩
  · cases hr
    rcases hx with ⟨g, cap, hm, hnc, rfl⟩ | ⟨rfl, rfl⟩
    · obtain ⟨g', cap', cur, h1, h2, h3, h4, h5, h6, h7, h8, h9, h10⟩ := RBx.real (h.hst b _ hl) hm
      rw [hm] at h1; cases h1
      exact .inl ⟨g, cap, cur, hO _ h2, rfl, hnc, h4, h.mlt _ _ _ hm, h3, h5, h6, h7, fun j hj => absurd (h8 j hj) (Nat.not_lt_zero _)⟩
    · exact .inr ⟨rfl, rfl, List.eq_nil_of_length_eq_zero (by rw [← hn]; exact Nat.zero_mul _)⟩
  · cases hr
    have hx : x = .slice none 0 0 := hx
    exact .inr ⟨hx, rfl, rfl⟩

theorem soundF_of_awp {P : Program} {C : FuncId → Option Con} (hC : CtxOK P C) (hmix : P.follows .mixedOrders = true) {f : FuncId} {fn : Func} {c : Code} (hf : P.funcs[f]? = some fn) (hb : fn.body = some c) {con : Con} {ty : TypeId} {size : Nat}
    (h : ∀ x, con.ok x → (con.enc x).length ≤ fn.ntmps ∧ awp P C fn.ntmps 0 c (endR fn ty size (con.res x)) (startT (con.enc x)) [] 0) : SoundF P f con ty size := by
  intro x F w vs cs n hF hv hok hres
  obtain ⟨hlen, hawp⟩ := h x hok
  rw [hres] at hawp
  generalize havs : con.enc x = avs at hlen hawp hv
  have hl := RCs_length hv
  refine callsIn_wide.1 (callsIn_of_wp (n := 0) hf hb trivial ?_)
  have hR : Rel (fun g => w.heap.size ≤ g) w F (fun _ => none) [] (fun b => 0 ≤ b) F (fun _ => none) fn.ntmps (startT avs) [] { tmps := vs.toArray ++ Array.replicate (fn.ntmps - vs.toArray.size) undef, defers := [] } w := by
    refine { htm := fun i => ?_, hsz := by simp; omega, hde := rfl, nst := ⟨_, NOK.nil⟩, hst := fun b x hx => by simp at hx, inj := fun b b' g c c' _ _ hm => (by cases hm), fresh := fun b _ => ⟨rfl, rfl⟩, pin := fun b y e => (by cases e), keep := Keeps.refl _ _, f0 := fun _ _ e => e, f1 := fun _ _ e => .inl e, f2 := hF, mlt := fun b g c hm => (by cases hm), below := Own.refl _ _, hb := fun _ e => e }
    have e : look (startT avs) i = avs[i]? := by
      unfold startT
      rw [List.range_eq_range', look_start avs 0 i]
      simp
    rw [e]
    cases hi : avs[i]? with
    | none => exact trivial
    | some c =>
      have hil : i < avs.length := (List.getElem?_eq_some_iff.1 hi).1
      have hx : vs[i]? = some (vs[i]'(by omega)) := List.getElem?_eq_getElem (by omega)
      have := ((RCs_iff.1 hv).2 i c _ hi hx).1
      simp only [Option.getD_some]
      have e2 : (vs.toArray ++ Array.replicate (fn.ntmps - vs.toArray.size) undef).getD i undef = vs[i]'(by omega) := by
        rw [Array.getD_eq_getD_getElem?, Array.getElem?_append_left (by simp; omega)]
        simp [hx]
      rw [e2]
      exact RV.of_RC this
  refine awp_sound (pins := 0) hC wide_wide hmix (fun b y e => by cases e) c _ _ F _ _ _ 0 _ w hR hawp ?_
  have fin : ∀ (a' : Act) (w' : World) (F' : FZ) (m' : MP) (tm' : TM) (st' : ST) (nx' : Nat), Rel (fun g => w.heap.size ≤ g) w F (fun _ => none) [] (fun b => nx' ≤ b) F' m' fn.ntmps tm' st' a' w' →
      (match fn.results.toList with
        | [.tmp t] => (∃ b n' cs', (look tm' t).getD .top = .osl b n' ∧ look st' b = some (.row ty size cs' 0) ∧ n' * size = cs'.length ∧ V.sl cs n = .sl cs' n') ∨ ((look tm' t).getD .top = .v (.slice none 0 0) ∧ V.sl cs n = .sl [] 0)
        | _ => False) →
      a'.defers = [] ∧ ∃ v, (results fn a'.tmps).run P w' = .ok v w' ∧ ∃ v_1 F', Ending.returned v = Ending.returned v_1 ∧ Below w.heap.size w w' ∧ (∀ g j, F g j → F' g j) ∧ (∀ g j, F' g j → F g j ∨ w.heap.size ≤ g) ∧ (∀ g j, F' g j → g < w'.heap.size) ∧ FreshV F' w.heap.size w'.heap ty size cs n v_1 := by
    intro a' w' F' m' tm' st' nx' hR' hg
    split at hg
    · next t hres =>
      have hr : fn.results = #[.tmp t] := by cases hh : fn.results; rw [hh] at hres; simp at hres; simp [hres]
      refine ⟨hR'.hde, a'.tmps.getD t undef, by simp [results, hr, Array.mapM_eq_mapM_toList], _, F', rfl, hR'.below.below, hR'.f0, hR'.f1, hR'.f2, ?_⟩
      exact fresh_end hR' (fun g e => e) (hR'.htm t) hg
    · exact hg.elim
  intro e a' w' hpo
  cases e with
  | normal => obtain ⟨F', m', tm', st', nx', hR', hg⟩ := hpo; exact fin a' w' F' m' tm' st' nx' hR' hg
  | ret => obtain ⟨F', m', tm', st', nx', hR', hg⟩ := hpo; exact fin a' w' F' m' tm' st' nx' hR' hg
  | exit id => obtain ⟨F', m', tm', st', nx', hR', hg⟩ := hpo; exact hg.elim
  | goto l => exact hpo.elim
  | panic c => exact hpo.elim
  | outgrown => exact hpo.elim

/-- A contract by a function that makes a list. -/
def conR {α β : Type} (F : α → Option β) (enc : α → List V) (er : β → V) (ty : TypeId) (size : Nat) : Con := { α := α × β, enc := fun x => enc x.1, ok := fun x => F x.1 = some x.2, res := fun x => er x.2, frs := .fresh ty size }

/-- The same, where the arguments are lent. -/
def conRL {α β : Type} (F : α → Option β) (enc : α → List V) (er : β → V) (ty : TypeId) (size : Nat) : Con := { α := α × β, enc := fun x => enc x.1, ok := fun x => F x.1 = some x.2, res := fun x => er x.2, frs := .lendF ty size }
def conL' {α β : Type} (F : α → Option β) (enc : α → List V) (er : β → V) : Con := { α := α × β, enc := fun x => enc x.1, ok := fun x => F x.1 = some x.2, res := fun x => er x.2, frs := .lend }

/-- Values that lead nowhere. -/
def isFl : V → Bool
  | .v _ => true
  | _ => false
theorem flat_cells {F : FZ} {H : Array Obj} {one : Bool} {F2 : FZ} {H2 : Array Obj} : ∀ {cs : List V} {xs : List Value}, cs.all isFl = true → RCs F H one cs xs → RCs F2 H2 one cs xs
  | [], [], _, _ => by simp [RCs]
  | c :: cs, x :: xs, h, hr => by
    simp only [List.all_cons, Bool.and_eq_true] at h
    simp only [RCs] at hr ⊢
    refine ⟨⟨?_, hr.1.2⟩, flat_cells h.2 hr.2⟩
    cases c with
    | v y => exact hr.1.1
    | _ => exact absurd h.1 (by simp [isFl])
  | [], _ :: _, _, hr => by simp [RCs] at hr
  | _ :: _, [], _, hr => by simp [RCs] at hr
theorem flat_recs {α : Type} {enc : α → List V} (h : ∀ a, (enc a).all isFl = true) (l : List α) : (recs enc l).all isFl = true := by
  induction l with
  | nil => rfl
  | cons a l ih => rw [show recs enc (a :: l) = enc a ++ recs enc l from rfl, List.all_append, h, ih]; rfl
theorem has_lendF {P : Program} {f : FuncId} {α β : Type} {F : α → Option β} {enc : α → List V} {er : β → V} {ty : TypeId} {size : Nat} (h : Has P f (conR F enc er ty size)) (hf : ∀ r cs n, er r = .sl cs n → cs.all isFl = true) : Has P f (conRL F enc er ty size) :=
  ⟨⟨h.1, fun x cs n F H xs F2 H2 hr hc => flat_cells (hf _ _ _ hr) hc⟩, h.2⟩

/-- A contract by a function. -/
def conF {α β : Type} (F : α → Option β) (enc : α → List V) (er : β → V) : Con := { α := α × β, enc := fun x => enc x.1, ok := fun x => F x.1 = some x.2, res := fun x => er x.2 }

/-- The same, where something more is asked. -/
def conK {α β : Type} (F : α → Option β) (enc : α → List V) (ok : α → Prop) (er : β → V) : Con := { α := α × β, enc := fun x => enc x.1, ok := fun x => F x.1 = some x.2 ∧ ok x.1, res := fun x => er x.2 }

/-- A closure that does what p says. -/
def Callable (C : FuncId → Option Con) (g : FuncId) (caps : List V) {A B : Type} (enc : A → List V) (er : B → V) (p : A → Option B) : Prop :=
  caps.all plain = true ∧ ∃ c, C g = some c ∧ c.eff = none ∧ c.frs = .keep ∧ ∀ a y, p a = some y → ∃ z : c.α, c.enc z = enc a ++ caps ∧ c.ok z ∧ c.res z = er y
theorem callable_conF {C : FuncId → Option Con} {g : FuncId} {caps : List V} {A B X : Type} {enc : A → List V} {er : B → V} {F : X → Option B} {e0 : X → List V} {x : A → X} (h0 : caps.all plain = true) (h1 : C g = some (conF F e0 er)) (h2 : ∀ a, e0 (x a) = enc a ++ caps) : Callable C g caps enc er (fun a => F (x a)) :=
  ⟨h0, _, h1, rfl, rfl, fun a y h => ⟨(x a, y), h2 a, h, rfl⟩⟩

theorem callable_conK {C : FuncId → Option Con} {g : FuncId} {caps : List V} {A B X : Type} {enc : A → List V} {er : B → V} {F : X → Option B} {e0 : X → List V} {ok : X → Prop} {x : A → X} (h0 : caps.all plain = true) (h1 : C g = some (conK F e0 ok er)) (h2 : ∀ a, e0 (x a) = enc a ++ caps) (h3 : ∀ a, ok (x a)) : Callable C g caps enc er (fun a => F (x a)) :=
  ⟨h0, _, h1, rfl, rfl, fun a y h => ⟨(x a, y), h2 a, ⟨h, h3 a⟩, rfl⟩⟩

/-- Contracts at hand, upon others. -/
def ext (C : FuncId → Option Con) : List (FuncId × Con) → FuncId → Option Con
  | [], f => C f
  | (g, c) :: l, f => match Nat.beq g f with
    | true => some c
    | false => ext C l f
theorem ext_nil {P : Program} {C : FuncId → Option Con} (h : CtxOK P C) : CtxOK P (ext C []) := h
theorem ext_cons {P : Program} {C : FuncId → Option Con} {g : FuncId} {c : Con} {l : List (FuncId × Con)} (h : Has P g c) (k : CtxOK P (ext C l)) : CtxOK P (ext C ((g, c) :: l)) := by
  intro f c' hf
  simp only [ext] at hf
  split at hf
  · next hb => have := Nat.eq_of_beq_eq_true hb; subst this; cases hf; exact h
  · exact k f c' hf

section
variable {P : Program} {C : FuncId → Option Con} {sz pins nx id : Nat} {tm : TM} {st : ST} {rs ws : List Nat}

theorem hasK (hC : CtxOK P C) (hmix : P.follows .mixedOrders = true) {f : FuncId} {fn : Func} {c : Code} (hf : P.funcs[f]? = some fn) (hb : fn.body = some c)
    (hn : (fn.name == "runtime.NumGoroutine") = false) {α β : Type} {F : α → Option β} {enc : α → List V} {ok : α → Prop} {er : β → V}
    (h : ∀ x r, ok x → (F x).bind some = some r → (enc x).length ≤ fn.ntmps ∧ awp P C fn.ntmps 0 c (endW P fn (er r)) (startT (enc x)) [] 0) : Has P f (conK F enc ok er) :=
  ⟨soundW_of_awp (con := conK F enc ok er) hC hmix hf hb fun x hx => h x.1 x.2 hx.2 (by show (F x.1).bind some = _; rw [show F x.1 = some x.2 from hx.1]; rfl), enters_ok hf hn (by simp [hb])⟩
theorem g_hcall {α β : Type} {F : α → Option β} {enc : α → List V} {ok : α → Prop} {er : β → V} {avs : List V} {K : V → ST → Prop} {x : α} {y : β} (hy : F x = some y) (ha : LeVs avs (enc x)) (hok : ok x)
    (h : (RM.retF (er y)).go st K) : (RM.exi (conK F enc ok er).α (fun z => LeVs avs ((conK F enc ok er).enc z) ∧ (conK F enc ok er).ok z) (fun z => RM.retF ((conK F enc ok er).res z))).go st K := ⟨(x, y), ⟨ha, hy, hok⟩, h⟩
theorem g_hcallT {α β : Type} {F : α → Option β} {enc : α → List V} {ok : α → Prop} {er : β → V} {avs : List V} {K : V → ST → List Nat → List Nat → Prop} {x : α} {y : β} (hy : F x = some y) (ha : LeVs avs (enc x)) (hok : ok x)
    (h : (RM.retF (er y)).goT st rs ws K) : (RM.exi (conK F enc ok er).α (fun z => LeVs avs ((conK F enc ok er).enc z) ∧ (conK F enc ok er).ok z) (fun z => RM.retF ((conK F enc ok er).res z))).goT st rs ws K := ⟨(x, y), ⟨ha, hy, hok⟩, h⟩
theorem map_plain {d : Nat} : ∀ (l : List V) (k : List V → RM), l.all plain = true → mapRM (fz (d + 1)) l k = k l
  | [], k, _ => rfl
  | c :: l, k, h => by
    simp only [List.all_cons, Bool.and_eq_true] at h
    have e : ∀ k, fz (d + 1) c k = k c := by
      intro k
      have h1 := h.1
      clear h
      cases c <;> first | rfl | (simp [plain] at h1)
    rw [mapRM, e, map_plain l _ h.2]
theorem go_map {d : Nat} {caps l : List V} {k : List V → RM} {K : V → ST → Prop} (h : caps.all plain = true) (hl : l = caps) (hk : (k caps).go st K) : (mapRM (fz (d + 1)) l k).go st K := by
  subst hl
  rw [map_plain l k h]; exact hk
theorem goT_map {d : Nat} {caps l : List V} {k : List V → RM} {K : V → ST → List Nat → List Nat → Prop} (h : caps.all plain = true) (hl : l = caps) (hk : (k caps).goT st rs ws K) : (mapRM (fz (d + 1)) l k).goT st rs ws K := by
  subst hl
  rw [map_plain l k h]; exact hk

theorem hasF (hC : CtxOK P C) (hmix : P.follows .mixedOrders = true) {f : FuncId} {fn : Func} {c : Code} (hf : P.funcs[f]? = some fn) (hb : fn.body = some c)
    (hn : (fn.name == "runtime.NumGoroutine") = false) {α β : Type} {F : α → Option β} {enc : α → List V} {er : β → V}
    (h : ∀ x r, (F x).bind some = some r → (enc x).length ≤ fn.ntmps ∧ awp P C fn.ntmps 0 c (endW P fn (er r)) (startT (enc x)) [] 0) : Has P f (conF F enc er) :=
  ⟨soundW_of_awp (con := conF F enc er) hC hmix hf hb fun x hx => h x.1 x.2 (by show (F x.1).bind some = _; rw [show F x.1 = some x.2 from hx]; rfl), enters_ok hf hn (by simp [hb])⟩

theorem hasFR (hC : CtxOK P C) (hmix : P.follows .mixedOrders = true) {f : FuncId} {fn : Func} {c : Code} (hf : P.funcs[f]? = some fn) (hb : fn.body = some c)
    (hn : (fn.name == "runtime.NumGoroutine") = false) {α β : Type} {F : α → Option β} {enc : α → List V} {er : β → V} {ty : TypeId} {size : Nat}
    (h : ∀ x r, (F x).bind some = some r → (enc x).length ≤ fn.ntmps ∧ awp P C fn.ntmps 0 c (endR fn ty size (er r)) (startT (enc x)) [] 0) : Has P f (conR F enc er ty size) :=
  ⟨soundF_of_awp (con := conR F enc er ty size) hC hmix hf hb fun x hx => h x.1 x.2 (by show (F x.1).bind some = _; rw [show F x.1 = some x.2 from hx]; rfl), enters_ok hf hn (by simp [hb])⟩

theorem g_callR {α β : Type} {F : α → Option β} {enc : α → List V} {er : β → V} {ty : TypeId} {size : Nat} {avs : List V} {K : V → ST → Prop} {x : α} {y : β} (hy : F x = some y) (ha : LeVs avs (enc x))
    (h : (freshR id ty size (er y)).go st K) : (RM.exi (conR F enc er ty size).α (fun z => LeVs avs ((conR F enc er ty size).enc z) ∧ (conR F enc er ty size).ok z) (fun z => freshR id ty size ((conR F enc er ty size).res z))).go st K := ⟨(x, y), ⟨ha, hy⟩, h⟩

theorem g_callRT {α β : Type} {F : α → Option β} {enc : α → List V} {er : β → V} {ty : TypeId} {size : Nat} {avs : List V} {K : V → ST → List Nat → List Nat → Prop} {x : α} {y : β} (hy : F x = some y) (ha : LeVs avs (enc x))
    (h : (freshR id ty size (er y)).goT st rs ws K) : (RM.exi (conR F enc er ty size).α (fun z => LeVs avs ((conR F enc er ty size).enc z) ∧ (conR F enc er ty size).ok z) (fun z => freshR id ty size ((conR F enc er ty size).res z))).goT st rs ws K := ⟨(x, y), ⟨ha, hy⟩, h⟩

theorem has_lend {f : FuncId} {α β : Type} {F : α → Option β} {enc : α → List V} {er : β → V} (h : Has P f (conF F enc er)) (hf : ∀ r F H v F2 H2, RC F H (er r) v → RC F2 H2 (er r) v) : Has P f (conL' F enc er) :=
  ⟨⟨h.1, fun x F H v F2 H2 hc => hf _ _ _ _ _ _ hc⟩, h.2⟩
theorem g_callL {α β : Type} {F : α → Option β} {enc : α → List V} {er : β → V} {avs : List V} {K : V → ST → Prop} {x : α} {y : β} (hy : F x = some y) (ha : LeVs avs (enc x))
    (h : (RM.retF (er y)).go st K) : (RM.exi (conL' F enc er).α (fun z => LeVs avs ((conL' F enc er).enc z) ∧ (conL' F enc er).ok z) (fun z => RM.retF ((conL' F enc er).res z))).go st K := ⟨(x, y), ⟨ha, hy⟩, h⟩
theorem g_callLT {α β : Type} {F : α → Option β} {enc : α → List V} {er : β → V} {avs : List V} {K : V → ST → List Nat → List Nat → Prop} {x : α} {y : β} (hy : F x = some y) (ha : LeVs avs (enc x))
    (h : (RM.retF (er y)).goT st rs ws K) : (RM.exi (conL' F enc er).α (fun z => LeVs avs ((conL' F enc er).enc z) ∧ (conL' F enc er).ok z) (fun z => RM.retF ((conL' F enc er).res z))).goT st rs ws K := ⟨(x, y), ⟨ha, hy⟩, h⟩
theorem g_callRL {α β : Type} {F : α → Option β} {enc : α → List V} {er : β → V} {ty : TypeId} {size : Nat} {avs : List V} {K : V → ST → Prop} {x : α} {y : β} (hy : F x = some y) (ha : LeVs avs (enc x))
    (h : (freshR id ty size (er y)).go st K) : (RM.exi (conRL F enc er ty size).α (fun z => LeVs avs ((conRL F enc er ty size).enc z) ∧ (conRL F enc er ty size).ok z) (fun z => freshR id ty size ((conRL F enc er ty size).res z))).go st K := ⟨(x, y), ⟨ha, hy⟩, h⟩

theorem g_callRLT {α β : Type} {F : α → Option β} {enc : α → List V} {er : β → V} {ty : TypeId} {size : Nat} {avs : List V} {K : V → ST → List Nat → List Nat → Prop} {x : α} {y : β} (hy : F x = some y) (ha : LeVs avs (enc x))
    (h : (freshR id ty size (er y)).goT st rs ws K) : (RM.exi (conRL F enc er ty size).α (fun z => LeVs avs ((conRL F enc er ty size).enc z) ∧ (conRL F enc er ty size).ok z) (fun z => freshR id ty size ((conRL F enc er ty size).res z))).goT st rs ws K := ⟨(x, y), ⟨ha, hy⟩, h⟩

theorem g_call {α β : Type} {F : α → Option β} {enc : α → List V} {er : β → V} {avs : List V} {K : V → ST → Prop} {x : α} {y : β} (hy : F x = some y) (ha : LeVs avs (enc x))
    (h : (RM.retF (er y)).go st K) : (RM.exi (conF F enc er).α (fun z => LeVs avs ((conF F enc er).enc z) ∧ (conF F enc er).ok z) (fun z => RM.retF ((conF F enc er).res z))).go st K := ⟨(x, y), ⟨ha, hy⟩, h⟩
theorem g_callT {α β : Type} {F : α → Option β} {enc : α → List V} {er : β → V} {avs : List V} {K : V → ST → List Nat → List Nat → Prop} {x : α} {y : β} (hy : F x = some y) (ha : LeVs avs (enc x))
    (h : (RM.retF (er y)).goT st rs ws K) : (RM.exi (conF F enc er).α (fun z => LeVs avs ((conF F enc er).enc z) ∧ (conF F enc er).ok z) (fun z => RM.retF ((conF F enc er).res z))).goT st rs ws K := ⟨(x, y), ⟨ha, hy⟩, h⟩

/-! tests whose answer is known -/
theorem ops_takeH {all : List Oper} {o : Oper} {os : List Oper} {K : TM → ST → Prop} {j d : Nat} {want b : Bool} (hb : b = want) (hd : okDst sz o.dst = true) (hg : o.guard = some (j, want)) (hj : (all[j]?).bind (·.dst) = some d) (hl : (look tm d).getD .top = .v (.bool b))
    (h : (opR P C id (ev tm) o.op).go st fun v st' => evOps P C sz all os (id + 1) (putT tm o.dst v) st' K) : evOps P C sz all (o :: os) id tm st K := ops_take hd hg hj (by rw [hl, hb]) h
theorem ops_skipH {all : List Oper} {o : Oper} {os : List Oper} {K : TM → ST → Prop} {j d : Nat} {want b : Bool} (hb : b = !want) (hd : okDst sz o.dst = true) (hg : o.guard = some (j, want)) (hj : (all[j]?).bind (·.dst) = some d) (hl : (look tm d).getD .top = .v (.bool b))
    (h : evOps P C sz all os (id + 1) (putT tm o.dst vU) st K) : evOps P C sz all (o :: os) id tm st K := ops_skip hd hg hj (by rw [hl, hb]) h
theorem st_condTH {x : Operand} {a b : Code} {p : Bool} {Q : AX → TM → ST → Nat → Prop} (hp : p = true) (hc : ev tm x = .v (.bool p)) (h1 : awp P C sz pins a Q tm st nx) : awp P C sz pins (.cond x a b) Q tm st nx := st_condT (by rw [hc, hp]) h1
theorem st_condFH {x : Operand} {a b : Code} {p : Bool} {Q : AX → TM → ST → Nat → Prop} (hp : p = false) (hc : ev tm x = .v (.bool p)) (h1 : awp P C sz pins b Q tm st nx) : awp P C sz pins (.cond x a b) Q tm st nx := st_condF (by rw [hc, hp]) h1
variable {ops : Array Oper} {o : Oper} {os : List Oper} {i : Nat} {prev : List (Nat × Oper × List Nat × List Nat)}
theorem d_takeH {K : TM → ST → Prop} {j d : Nat} {want b : Bool} (hb : b = want) (hd : okDst sz o.dst = true) (hg : o.guard = some (j, want)) (hj : (ops.toList[j]?).bind (·.dst) = some d) (hl : (look tm d).getD .top = .v (.bool b))
    (h : (opR P C (nx + i) (ev tm) o.op).goT st [] [] (dK P C sz ops nx o os i tm prev K)) : evOpsD P C sz ops nx (o :: os) i tm st prev K := d_take hd hg hj (by rw [hl, hb]) h
theorem d_skipH {K : TM → ST → Prop} {j d : Nat} {want b : Bool} (hb : b = !want) (hd : okDst sz o.dst = true) (hg : o.guard = some (j, want)) (hj : (ops.toList[j]?).bind (·.dst) = some d) (hl : (look tm d).getD .top = .v (.bool b)) (hi : indepB ops o [] [] prev = true)
    (h : evOpsD P C sz ops nx os (i + 1) (putT tm o.dst vU) st ((i, o, [], []) :: prev) K) : evOpsD P C sz ops nx (o :: os) i tm st prev K := d_skip hd hg hj (by rw [hl, hb]) hi h

/-! loops -/
/-- A loop: its rounds over data, and the states at its head. -/
structure LoopD (S E Γ : Type) where
  step : S → Option (S ⊕ E)
  at_ : S → Γ → LS

section loops
variable {S E R Γ : Type}
abbrev LoopA (step : S → Option (S ⊕ E)) (K : E → Option R) (r : R) (Γ : Type) := { x : Nat × S × Γ // (loopN step x.1 x.2.1).bind K = some r }
theorem st_loopF {L : LoopD S E Γ} {K : E → Option R} {r : R} {s0 : S} {c : Code} {Q : AX → TM → ST → Nat → Prop} (hF : (loopC L.step s0).bind K = some r) (g0 : Γ) (ren : List (Nat × Nat)) (hs : Sub pins ren (L.at_ s0 g0).tm (L.at_ s0 g0).st (L.at_ s0 g0).nx tm st)
    (h : ∀ (n : Nat) (s : S) (g : Γ) (x : LoopA L.step K r Γ), x.1.1 = n + 1 → (L.step s).bind (nextF L.step K n) = some r → awp P C sz pins c (loopK pins (fun y : LoopA L.step K r Γ => L.at_ y.1.2.1 y.1.2.2) (fun y => y.1.1) x Q) (L.at_ s g).tm (L.at_ s g).st (L.at_ s g).nx) : awp P C sz pins (.loop c) Q tm st nx := by
  obtain ⟨e, he, hk⟩ : ∃ e, loopC L.step s0 = some e ∧ K e = some r := by
    cases hl : loopC L.step s0 with
    | none => rw [hl] at hF; cases hF
    | some e => rw [hl] at hF; exact ⟨e, rfl, hF⟩
  obtain ⟨n, hn⟩ := loopC_ex he
  refine st_loop (α := LoopA L.step K r Γ) (mk := fun y => L.at_ y.1.2.1 y.1.2.2) (μ := fun y => y.1.1) ⟨⟨(n, s0, g0), by rw [hn]; exact hk⟩, ren, hs⟩ ?_
  rintro ⟨⟨n, s, g⟩, hx⟩
  cases n with
  | zero => cases hx
  | succ n =>
    refine h n s g ⟨(n + 1, s, g), hx⟩ rfl ?_
    simp only [loopN] at hx
    cases hs : L.step s with
    | none => rw [hs] at hx; cases hx
    | some o =>
      rw [hs] at hx
      cases o with
      | inl s' => exact hx
      | inr e => exact hx
theorem k_loopF {L : LoopD S E Γ} {K : E → Option R} {r : R} {x : LoopA L.step K r Γ} {n : Nat} {Q : AX → TM → ST → Nat → Prop} {s' : S} (hF : nextF L.step K n (.inl s') = some r) (hx : x.1.1 = n + 1) (g' : Γ) (ren : List (Nat × Nat))
    (hs : Sub pins ren (L.at_ s' g').tm (L.at_ s' g').st (L.at_ s' g').nx tm st) : loopK pins (fun y : LoopA L.step K r Γ => L.at_ y.1.2.1 y.1.2.2) (fun y => y.1.1) x Q .normal tm st nx :=
  k_loop (⟨(n, s', g'), hF⟩ : LoopA L.step K r Γ) ren hs (by show n < x.1.1; omega)
end loops
end

/-! lists -/
/-- An element of a list by its number. -/
def idx? {α : Type} (l : List α) (j : Int) : Option α := if 0 ≤ j then l[j.toNat]? else none
theorem idx?_lt {α : Type} {l : List α} {j : Int} {x : α} (h : idx? l j = some x) : 0 ≤ j ∧ j < l.length ∧ ∃ hj : j.toNat < l.length, l[j.toNat] = x := by
  unfold idx? at h
  split at h
  · obtain ⟨hj, hx⟩ := List.getElem?_eq_some_iff.mp h
    exact ⟨by assumption, by omega, hj, hx⟩
  · cases h
theorem recs_at {α : Type} {enc : α → List V} {s : Nat} (he : ∀ a, (enc a).length = s) {l : List α} {j : Int} {x : α} (h : idx? l j = some x) : ∃ rest, (recs enc l).drop (j.toNat * s) = enc x ++ rest := by
  obtain ⟨_, _, hj, hx⟩ := idx?_lt h
  refine ⟨recs enc (l.drop (j.toNat + 1)), ?_⟩
  rw [recs_drop he, List.drop_eq_getElem_cons hj, hx]
  rfl

section
variable {st : ST} {rs ws : List Nat}
/-- The address of an element. -/
theorem o_ia {α : Type} {enc : α → List V} {s : Nat} {l : List α} {j : Int} {a : α} {d : Decidable (0 ≤ j ∧ j < (l.length : Int) ∧ l.length * s = (recs enc l).length ∧ 0 < s)} {K : V → ST → Prop} (h : idx? l j = some a) (he : ∀ a, (enc a).length = s) (hs : 0 < s)
    (hk : ∀ rest, (RM.ret (.fptr (enc a ++ rest))).go st K) : (@RM.dec (0 ≤ j ∧ j < (l.length : Int) ∧ l.length * s = (recs enc l).length ∧ 0 < s) (RM.ret (.fptr ((recs enc l).drop (j.toNat * s)))) d).go st K := by
  obtain ⟨h0, h1, _⟩ := idx?_lt h
  obtain ⟨rest, hr⟩ := recs_at he h
  refine ⟨⟨h0, h1, by rw [recs_length he], hs⟩, ?_⟩
  rw [hr]
  exact hk rest
theorem o_iaT {α : Type} {enc : α → List V} {s : Nat} {l : List α} {j : Int} {a : α} {d : Decidable (0 ≤ j ∧ j < (l.length : Int) ∧ l.length * s = (recs enc l).length ∧ 0 < s)} {K : V → ST → List Nat → List Nat → Prop} (h : idx? l j = some a) (he : ∀ a, (enc a).length = s) (hs : 0 < s)
    (hk : ∀ rest, (RM.ret (.fptr (enc a ++ rest))).goT st rs ws K) : (@RM.dec (0 ≤ j ∧ j < (l.length : Int) ∧ l.length * s = (recs enc l).length ∧ 0 < s) (RM.ret (.fptr ((recs enc l).drop (j.toNat * s)))) d).goT st rs ws K := by
  obtain ⟨h0, h1, _⟩ := idx?_lt h
  obtain ⟨rest, hr⟩ := recs_at he h
  refine ⟨⟨h0, h1, by rw [recs_length he], hs⟩, ?_⟩
  rw [hr]
  exact hk rest
end

/-- A divisor. -/
def nz? (b : Int) : Option Unit := if b ≠ 0 then some () else none
theorem nz_ne {b : Int} {u : Unit} (h : nz? b = some u) : b ≠ 0 := by
  unfold nz? at h
  split at h
  · assumption
  · cases h
/-- A part of a list. -/
def slc? {α : Type} (l : List α) (i j : Int) : Option (List α) := if 0 ≤ i ∧ i ≤ j ∧ j ≤ l.length then some ((l.drop i.toNat).take (j.toNat - i.toNat)) else none
theorem recs_take {α : Type} {enc : α → List V} {s : Nat} (he : ∀ a, (enc a).length = s) (l : List α) (k : Nat) : (recs enc l).take (k * s) = recs enc (l.take k) := by
  induction l generalizing k with
  | nil => simp [recs]
  | cons a l ih =>
    cases k with
    | zero => simp [recs]
    | succ k =>
      have e : (k + 1) * s = (enc a).length + k * s := by rw [he, Nat.add_mul]; omega
      rw [show recs enc (a :: l) = enc a ++ recs enc l from rfl, e, List.take_length_add_append, ih]
      rfl
section
variable {st : ST} {rs ws : List Nat}
theorem slc_eq {α : Type} {enc : α → List V} {s : Nat} {l m : List α} {i j : Int} (h : slc? l i j = some m) (he : ∀ a, (enc a).length = s) :
    (0 ≤ i ∧ i ≤ j ∧ j ≤ (l.length : Int) ∧ l.length * s = (recs enc l).length) ∧ ((recs enc l).drop (i.toNat * s)).take ((j.toNat - i.toNat) * s) = recs enc m ∧ j.toNat - i.toNat = m.length := by
  unfold slc? at h
  split at h
  · next hc =>
    cases h
    refine ⟨⟨hc.1, hc.2.1, hc.2.2, (recs_length he l).symm⟩, ?_, ?_⟩
    · rw [recs_drop he, recs_take he]
    · simp; omega
  · cases h
theorem o_slc {α : Type} {enc : α → List V} {s : Nat} {l m : List α} {i j : Int} {d : Decidable (0 ≤ i ∧ i ≤ j ∧ j ≤ (l.length : Int) ∧ l.length * s = (recs enc l).length)} {K : V → ST → Prop} (h : slc? l i j = some m) (he : ∀ a, (enc a).length = s)
    (hk : (RM.ret (.sl (recs enc m) m.length)).go st K) : (@RM.dec (0 ≤ i ∧ i ≤ j ∧ j ≤ (l.length : Int) ∧ l.length * s = (recs enc l).length) (.ret (.sl (((recs enc l).drop (i.toNat * s)).take ((j.toNat - i.toNat) * s)) (j.toNat - i.toNat))) d).go st K := by
  obtain ⟨h1, h2, h3⟩ := slc_eq h he
  rw [h2, h3]
  exact ⟨h1, hk⟩
theorem o_slcT {α : Type} {enc : α → List V} {s : Nat} {l m : List α} {i j : Int} {d : Decidable (0 ≤ i ∧ i ≤ j ∧ j ≤ (l.length : Int) ∧ l.length * s = (recs enc l).length)} {K : V → ST → List Nat → List Nat → Prop} (h : slc? l i j = some m) (he : ∀ a, (enc a).length = s)
    (hk : (RM.ret (.sl (recs enc m) m.length)).goT st rs ws K) : (@RM.dec (0 ≤ i ∧ i ≤ j ∧ j ≤ (l.length : Int) ∧ l.length * s = (recs enc l).length) (.ret (.sl (((recs enc l).drop (i.toNat * s)).take ((j.toNat - i.toNat) * s)) (j.toNat - i.toNat))) d).goT st rs ws K := by
  obtain ⟨h1, h2, h3⟩ := slc_eq h he
  rw [h2, h3]
  exact ⟨h1, hk⟩
end

/-! lists of the call's own -/
/-- A list, and another behind it; by bytes each. -/
def app? {α : Type} (l m : List α) (by_ : Nat) : Option (List α) := if (l.length + m.length) * by_ ≤ 140737488355328 ∧ 0 < by_ then some (l ++ m) else none
def appn? {α : Type} (m : List α) (by_ : Nat) : Option (List α) := if m.length * by_ ≤ 140737488355328 ∧ 0 < by_ ∧ 0 < m.length then some m else none
/-- A new list. -/
def mk? {α : Type} (z : α) (n : Int) (by_ : Nat) : Option (List α) := if 0 ≤ n ∧ n * by_ ≤ 281474976710656 ∧ n ≤ 140737488355328 then some (List.replicate n.toNat z) else none
/-- A list with another element. -/
def set? {α : Type} (l : List α) (j : Int) (x : α) : Option (List α) := if 0 ≤ j ∧ j < l.length then some (l.set j.toNat x) else none

theorem recs_append {α : Type} (enc : α → List V) (l m : List α) : recs enc l ++ recs enc m = recs enc (l ++ m) := by simp [recs]
theorem app_eq {α : Type} {enc : α → List V} {s : Nat} {l m r : List α} {n : Nat} (h : app? l m n = some r) (he : ∀ a, (enc a).length = s) :
    (l.length * s = (recs enc l).length ∧ l.length + m.length ≤ maxLen ∧ (l.length + m.length) * n ≤ 140737488355328) ∧ recs enc l ++ recs enc m = recs enc r ∧ l.length + m.length = r.length := by
  unfold app? at h
  split at h
  · next hc =>
    cases h
    refine ⟨⟨(recs_length he l).symm, ?_, hc.1⟩, recs_append enc l m, by simp⟩
    have h1 : l.length + m.length ≤ (l.length + m.length) * n := Nat.le_mul_of_pos_right _ hc.2
    have h2 : (140737488355328 : Nat) ≤ maxLen := by decide
    omega
  · cases h
theorem appn_eq {α : Type} {enc : α → List V} {s : Nat} {m r : List α} {n : Nat} (h : appn? m n = some r) (he : ∀ a, (enc a).length = s) :
    (m.length ≤ maxLen ∧ m.length * n ≤ 140737488355328 ∧ 0 < m.length) ∧ m = r := by
  unfold appn? at h
  split at h
  · next hc =>
    cases h
    refine ⟨⟨?_, hc.1, hc.2.2⟩, rfl⟩
    have h1 : m.length ≤ m.length * n := Nat.le_mul_of_pos_right _ hc.2.1
    have h2 : (140737488355328 : Nat) ≤ maxLen := by decide
    omega
  · cases h
theorem mk_eq {α : Type} {enc : α → List V} {s : Nat} {z : α} {n : Int} {k : Nat} {r : List α} (h : mk? z n k = some r) (hs : 0 < s) :
    (0 ≤ n ∧ n = n ∧ n * k ≤ 281474976710656 ∧ 0 < s ∧ n ≤ maxLen) ∧ (List.replicate n.toNat (enc z)).flatten = recs enc r ∧ n.toNat = r.length := by
  unfold mk? at h
  split at h
  · next hc =>
    cases h
    refine ⟨⟨hc.1, rfl, hc.2.1, hs, ?_⟩, recs_replicate z _, by simp⟩
    have h2 : (140737488355328 : Int) ≤ maxLen := by decide
    omega
  · cases h
theorem set_eq {α : Type} {enc : α → List V} {s o n : Nat} {l r : List α} {j : Int} {a b : α} {new : List V} (hi : idx? l j = some a) (h : set? l j b = some r) (he : ∀ a, (enc a).length = s) (ho : o + n ≤ s)
    (hn : new.length = n) (hb : (enc a).take o ++ new ++ (enc a).drop (o + n) = enc b) :
    (new.length = n ∧ j.toNat * s + o + n ≤ (recs enc l).length ∧ 0 ≤ j.toNat * s + o) ∧ (recs enc l).take (j.toNat * s + o) ++ new ++ (recs enc l).drop (j.toNat * s + o + n) = recs enc r := by
  obtain ⟨h0, h1, hj, hx⟩ := idx?_lt hi
  unfold set? at h
  rw [if_pos ⟨h0, h1⟩] at h
  cases h
  refine ⟨⟨hn, ?_, Nat.zero_le _⟩, ?_⟩
  · rw [recs_length he]
    have : (j.toNat + 1) * s ≤ l.length * s := Nat.mul_le_mul_right s hj
    rw [Nat.add_mul] at this
    omega
  · rw [← recs_set (s := s) he l j.toNat b hj, ← hb]
    obtain ⟨rest, hr⟩ := recs_at he hi
    have hla : (enc a).length = s := he a
    have hl : (recs enc l).length = l.length * s := recs_length he l
    have hle : j.toNat * s + s ≤ (recs enc l).length := by
      rw [hl]
      have : (j.toNat + 1) * s ≤ l.length * s := Nat.mul_le_mul_right s hj
      rw [Nat.add_mul] at this
      omega
    have e1 : (recs enc l).take (j.toNat * s + o) = (recs enc l).take (j.toNat * s) ++ (enc a).take o := by
      rw [List.take_add, hr, List.take_append_of_le_length (by omega)]
    have h3 : (recs enc l).drop (j.toNat * s + s) = rest := by
      rw [← List.drop_drop, hr, List.drop_append_of_le_length (by omega), ← hla, List.drop_length]
      rfl
    have e2 : (recs enc l).drop (j.toNat * s + o + n) = (enc a).drop (o + n) ++ (recs enc l).drop (j.toNat * s + s) := by
      rw [h3, show j.toNat * s + o + n = j.toNat * s + (o + n) by omega, ← List.drop_drop, hr, List.drop_append_of_le_length (by omega)]
    rw [e1, e2]
    simp [List.append_assoc]

section
variable {st : ST} {rs ws : List Nat}
theorem o_app {α : Type} {enc : α → List V} {s n : Nat} {l m r : List α} {b id : Nat} {e : TypeId} {p : Nat} {d : Decidable (l.length * s = (recs enc l).length ∧ l.length + m.length ≤ maxLen ∧ (l.length + m.length) * n ≤ 140737488355328)} {K : V → ST → Prop} (h : app? l m n = some r) (he : ∀ a, (enc a).length = s)
    (hk : (RM.ret (.osl id r.length)).go ((id, .row e s (recs enc r) p) :: (b, .dead) :: st) K) : (@RM.dec (l.length * s = (recs enc l).length ∧ l.length + m.length ≤ maxLen ∧ (l.length + m.length) * n ≤ 140737488355328) (.put b .dead (.put id (.row e s (recs enc l ++ recs enc m) p) (.ret (.osl id (l.length + m.length))))) d).go st K := by
  obtain ⟨h1, h2, h3⟩ := app_eq h he
  rw [← h2, ← h3] at hk
  exact ⟨h1, hk⟩
theorem o_appT {α : Type} {enc : α → List V} {s n : Nat} {l m r : List α} {b id : Nat} {e : TypeId} {p : Nat} {d : Decidable (l.length * s = (recs enc l).length ∧ l.length + m.length ≤ maxLen ∧ (l.length + m.length) * n ≤ 140737488355328)} {K : V → ST → List Nat → List Nat → Prop} (h : app? l m n = some r) (he : ∀ a, (enc a).length = s)
    (hk : (RM.ret (.osl id r.length)).goT ((id, .row e s (recs enc r) p) :: (b, .dead) :: st) rs (id :: b :: ws) K) : (@RM.dec (l.length * s = (recs enc l).length ∧ l.length + m.length ≤ maxLen ∧ (l.length + m.length) * n ≤ 140737488355328) (.put b .dead (.put id (.row e s (recs enc l ++ recs enc m) p) (.ret (.osl id (l.length + m.length))))) d).goT st rs ws K := by
  obtain ⟨h1, h2, h3⟩ := app_eq h he
  rw [← h2, ← h3] at hk
  exact ⟨h1, hk⟩
theorem o_appn {α : Type} {enc : α → List V} {s n : Nat} {m r : List α} {id : Nat} {e : TypeId} {d : Decidable (m.length ≤ maxLen ∧ m.length * n ≤ 140737488355328 ∧ 0 < m.length)} {K : V → ST → Prop} (h : appn? m n = some r) (he : ∀ a, (enc a).length = s)
    (hk : (RM.ret (.osl id r.length)).go ((id, .row e s (recs enc r) 0) :: st) K) : (@RM.dec (m.length ≤ maxLen ∧ m.length * n ≤ 140737488355328 ∧ 0 < m.length) (.put id (.row e s (recs enc m) 0) (.ret (.osl id m.length))) d).go st K := by
  obtain ⟨h1, rfl⟩ := appn_eq h he
  exact ⟨h1, hk⟩
theorem o_appnT {α : Type} {enc : α → List V} {s n : Nat} {m r : List α} {id : Nat} {e : TypeId} {d : Decidable (m.length ≤ maxLen ∧ m.length * n ≤ 140737488355328 ∧ 0 < m.length)} {K : V → ST → List Nat → List Nat → Prop} (h : appn? m n = some r) (he : ∀ a, (enc a).length = s)
    (hk : (RM.ret (.osl id r.length)).goT ((id, .row e s (recs enc r) 0) :: st) rs (id :: ws) K) : (@RM.dec (m.length ≤ maxLen ∧ m.length * n ≤ 140737488355328 ∧ 0 < m.length) (.put id (.row e s (recs enc m) 0) (.ret (.osl id m.length))) d).goT st rs ws K := by
  obtain ⟨h1, rfl⟩ := appn_eq h he
  exact ⟨h1, hk⟩
theorem o_mk {α : Type} {enc : α → List V} {s k : Nat} {z : α} {n : Int} {r : List α} {id : Nat} {e : TypeId} {zc : List V} {d : Decidable (0 ≤ n ∧ n = n ∧ n * k ≤ 281474976710656 ∧ 0 < s ∧ n ≤ maxLen)} {K : V → ST → Prop} (h : mk? z n k = some r) (hs : 0 < s) (hz : zc = enc z)
    (hk : (RM.ret (.osl id r.length)).go ((id, .row e s (recs enc r) 0) :: st) K) : (@RM.dec (0 ≤ n ∧ n = n ∧ n * k ≤ 281474976710656 ∧ 0 < s ∧ n ≤ maxLen) (.put id (.row e s (List.replicate n.toNat zc).flatten 0) (.ret (.osl id n.toNat))) d).go st K := by
  obtain ⟨h1, h2, h3⟩ := mk_eq (enc := enc) (s := s) h hs
  subst hz
  rw [h2, h3]
  exact ⟨h1, hk⟩
theorem o_mkT {α : Type} {enc : α → List V} {s k : Nat} {z : α} {n : Int} {r : List α} {id : Nat} {e : TypeId} {zc : List V} {d : Decidable (0 ≤ n ∧ n = n ∧ n * k ≤ 281474976710656 ∧ 0 < s ∧ n ≤ maxLen)} {K : V → ST → List Nat → List Nat → Prop} (h : mk? z n k = some r) (hs : 0 < s) (hz : zc = enc z)
    (hk : (RM.ret (.osl id r.length)).goT ((id, .row e s (recs enc r) 0) :: st) rs (id :: ws) K) : (@RM.dec (0 ≤ n ∧ n = n ∧ n * k ≤ 281474976710656 ∧ 0 < s ∧ n ≤ maxLen) (.put id (.row e s (List.replicate n.toNat zc).flatten 0) (.ret (.osl id n.toNat))) d).goT st rs ws K := by
  obtain ⟨h1, h2, h3⟩ := mk_eq (enc := enc) (s := s) h hs
  subst hz
  rw [h2, h3]
  exact ⟨h1, hk⟩
theorem oidx_ok {α : Type} {l : List α} {j : Int} {a : α} {s : Nat} (h : idx? l j = some a) (hs : 0 < s) : 0 ≤ j ∧ j < (l.length : Int) ∧ 0 < s := by
  obtain ⟨h0, h1, _⟩ := idx?_lt h
  exact ⟨h0, h1, hs⟩
theorem own_at {α : Type} {enc : α → List V} {s o n : Nat} {l : List α} {j : Int} {a : α} (h : idx? l j = some a) (he : ∀ a, (enc a).length = s) (ho : o + n ≤ s) :
    j.toNat * s + o + n ≤ (recs enc l).length ∧ ((recs enc l).drop (j.toNat * s + o)).take n = ((enc a).drop o).take n := by
  obtain ⟨h0, h1, hj, hx⟩ := idx?_lt h
  obtain ⟨rest, hr⟩ := recs_at he h
  have hla := he a
  constructor
  · rw [recs_length he]
    have : (j.toNat + 1) * s ≤ l.length * s := Nat.mul_le_mul_right s hj
    rw [Nat.add_mul] at this
    omega
  · rw [← List.drop_drop, hr, List.drop_append_of_le_length (by omega), List.take_append_of_le_length (by simp; omega)]
/-- A record, or a part of one, out of an own list. -/
theorem o_ldA {α : Type} {enc : α → List V} {s n : Nat} {l : List α} {j : Int} {a : α} {d : Decidable (j.toNat * s + n ≤ (recs enc l).length)} {K : V → ST → Prop} (h : idx? l j = some a) (he : ∀ a, (enc a).length = s) (ho : 0 + n ≤ s)
    (hk : (RM.retF (.agg (((enc a).drop 0).take n))).go st K) : (@RM.dec (j.toNat * s + n ≤ (recs enc l).length) (RM.retF (.agg (((recs enc l).drop (j.toNat * s)).take n))) d).go st K := by
  obtain ⟨h1, h2⟩ := own_at (o := 0) h he ho
  rw [Nat.add_zero] at h1 h2
  rw [h2]; exact ⟨h1, hk⟩
theorem o_ldB {α : Type} {enc : α → List V} {s o n : Nat} {l : List α} {j : Int} {a : α} {d : Decidable (j.toNat * s + o + n ≤ (recs enc l).length)} {K : V → ST → Prop} (h : idx? l j = some a) (he : ∀ a, (enc a).length = s) (ho : o + n ≤ s)
    (hk : (RM.retF (.agg (((enc a).drop o).take n))).go st K) : (@RM.dec (j.toNat * s + o + n ≤ (recs enc l).length) (RM.retF (.agg (((recs enc l).drop (j.toNat * s + o)).take n))) d).go st K := by
  obtain ⟨h1, h2⟩ := own_at h he ho
  rw [h2]; exact ⟨h1, hk⟩
theorem own_one {α : Type} {enc : α → List V} {s o : Nat} {l : List α} {j : Int} {a : α} (h : idx? l j = some a) (he : ∀ a, (enc a).length = s) (ho : o + 1 ≤ s) :
    j.toNat * s + o < (recs enc l).length ∧ ((recs enc l)[j.toNat * s + o]?).getD .top = ((enc a)[o]?).getD .top := by
  obtain ⟨h1, h2⟩ := own_at (o := o) (n := 1) h he ho
  refine ⟨by omega, ?_⟩
  have := congrArg (fun x => x[0]?) h2
  simp only [List.getElem?_take, List.getElem?_drop, if_pos (show 0 < 1 by decide), Nat.add_zero] at this
  rw [this]
theorem o_ldC {α : Type} {enc : α → List V} {s : Nat} {l : List α} {j : Int} {a : α} {d : Decidable (j.toNat * s < (recs enc l).length)} {K : V → ST → Prop} (h : idx? l j = some a) (he : ∀ a, (enc a).length = s) (ho : 0 + 1 ≤ s)
    (hk : (RM.retF (((enc a)[0]?).getD .top)).go st K) : (@RM.dec (j.toNat * s < (recs enc l).length) (RM.retF (((recs enc l)[j.toNat * s]?).getD .top)) d).go st K := by
  obtain ⟨h1, h2⟩ := own_one (o := 0) h he ho
  rw [Nat.add_zero] at h1 h2
  rw [h2]; exact ⟨h1, hk⟩
theorem o_ldD {α : Type} {enc : α → List V} {s o : Nat} {l : List α} {j : Int} {a : α} {d : Decidable (j.toNat * s + o < (recs enc l).length)} {K : V → ST → Prop} (h : idx? l j = some a) (he : ∀ a, (enc a).length = s) (ho : o + 1 ≤ s)
    (hk : (RM.retF (((enc a)[o]?).getD .top)).go st K) : (@RM.dec (j.toNat * s + o < (recs enc l).length) (RM.retF (((recs enc l)[j.toNat * s + o]?).getD .top)) d).go st K := by
  obtain ⟨h1, h2⟩ := own_one h he ho
  rw [h2]; exact ⟨h1, hk⟩
theorem o_ldAT {α : Type} {enc : α → List V} {s n : Nat} {l : List α} {j : Int} {a : α} {d : Decidable (j.toNat * s + n ≤ (recs enc l).length)} {K : V → ST → List Nat → List Nat → Prop} (h : idx? l j = some a) (he : ∀ a, (enc a).length = s) (ho : 0 + n ≤ s)
    (hk : (RM.retF (.agg (((enc a).drop 0).take n))).goT st rs ws K) : (@RM.dec (j.toNat * s + n ≤ (recs enc l).length) (RM.retF (.agg (((recs enc l).drop (j.toNat * s)).take n))) d).goT st rs ws K := by
  obtain ⟨h1, h2⟩ := own_at (o := 0) h he ho
  rw [Nat.add_zero] at h1 h2
  rw [h2]; exact ⟨h1, hk⟩
theorem o_ldBT {α : Type} {enc : α → List V} {s o n : Nat} {l : List α} {j : Int} {a : α} {d : Decidable (j.toNat * s + o + n ≤ (recs enc l).length)} {K : V → ST → List Nat → List Nat → Prop} (h : idx? l j = some a) (he : ∀ a, (enc a).length = s) (ho : o + n ≤ s)
    (hk : (RM.retF (.agg (((enc a).drop o).take n))).goT st rs ws K) : (@RM.dec (j.toNat * s + o + n ≤ (recs enc l).length) (RM.retF (.agg (((recs enc l).drop (j.toNat * s + o)).take n))) d).goT st rs ws K := by
  obtain ⟨h1, h2⟩ := own_at h he ho
  rw [h2]; exact ⟨h1, hk⟩
theorem o_ldCT {α : Type} {enc : α → List V} {s : Nat} {l : List α} {j : Int} {a : α} {d : Decidable (j.toNat * s < (recs enc l).length)} {K : V → ST → List Nat → List Nat → Prop} (h : idx? l j = some a) (he : ∀ a, (enc a).length = s) (ho : 0 + 1 ≤ s)
    (hk : (RM.retF (((enc a)[0]?).getD .top)).goT st rs ws K) : (@RM.dec (j.toNat * s < (recs enc l).length) (RM.retF (((recs enc l)[j.toNat * s]?).getD .top)) d).goT st rs ws K := by
  obtain ⟨h1, h2⟩ := own_one (o := 0) h he ho
  rw [Nat.add_zero] at h1 h2
  rw [h2]; exact ⟨h1, hk⟩
theorem o_ldDT {α : Type} {enc : α → List V} {s o : Nat} {l : List α} {j : Int} {a : α} {d : Decidable (j.toNat * s + o < (recs enc l).length)} {K : V → ST → List Nat → List Nat → Prop} (h : idx? l j = some a) (he : ∀ a, (enc a).length = s) (ho : o + 1 ≤ s)
    (hk : (RM.retF (((enc a)[o]?).getD .top)).goT st rs ws K) : (@RM.dec (j.toNat * s + o < (recs enc l).length) (RM.retF (((recs enc l)[j.toNat * s + o]?).getD .top)) d).goT st rs ws K := by
  obtain ⟨h1, h2⟩ := own_one h he ho
  rw [h2]; exact ⟨h1, hk⟩
/-- An element, or a part of one, is written. -/
theorem o_stA {α : Type} {enc : α → List V} {s n : Nat} {l r : List α} {j : Int} {a x : α} {new : List V} {b : Nat} {e : TypeId} {d : Decidable (new.length = n ∧ j.toNat * s + n ≤ (recs enc l).length ∧ 0 ≤ j.toNat * s)} {K : V → ST → Prop} (hi : idx? l j = some a) (h : set? l j x = some r) (he : ∀ a, (enc a).length = s) (ho : 0 + n ≤ s)
    (hn : new.length = n) (hb : (enc a).take 0 ++ new ++ (enc a).drop (0 + n) = enc x)
    (hk : (RM.ret .top).go ((b, .row e s (recs enc r) 0) :: st) K) : (@RM.dec (new.length = n ∧ j.toNat * s + n ≤ (recs enc l).length ∧ 0 ≤ j.toNat * s) (.put b (.row e s ((recs enc l).take (j.toNat * s) ++ new ++ (recs enc l).drop (j.toNat * s + n)) 0) (.ret .top)) d).go st K := by
  obtain ⟨h1, h2⟩ := set_eq (o := 0) hi h he ho hn hb
  simp only [Nat.add_zero] at h1 h2
  rw [h2]; exact ⟨h1, hk⟩
theorem o_stB {α : Type} {enc : α → List V} {s o n : Nat} {l r : List α} {j : Int} {a x : α} {new : List V} {b : Nat} {e : TypeId} {d : Decidable (new.length = n ∧ j.toNat * s + o + n ≤ (recs enc l).length ∧ 0 ≤ j.toNat * s + o)} {K : V → ST → Prop} (hi : idx? l j = some a) (h : set? l j x = some r) (he : ∀ a, (enc a).length = s) (ho : o + n ≤ s)
    (hn : new.length = n) (hb : (enc a).take o ++ new ++ (enc a).drop (o + n) = enc x)
    (hk : (RM.ret .top).go ((b, .row e s (recs enc r) 0) :: st) K) : (@RM.dec (new.length = n ∧ j.toNat * s + o + n ≤ (recs enc l).length ∧ 0 ≤ j.toNat * s + o) (.put b (.row e s ((recs enc l).take (j.toNat * s + o) ++ new ++ (recs enc l).drop (j.toNat * s + o + n)) 0) (.ret .top)) d).go st K := by
  obtain ⟨h1, h2⟩ := set_eq hi h he ho hn hb
  rw [h2]; exact ⟨h1, hk⟩
theorem o_stAT {α : Type} {enc : α → List V} {s n : Nat} {l r : List α} {j : Int} {a x : α} {new : List V} {b : Nat} {e : TypeId} {d : Decidable (new.length = n ∧ j.toNat * s + n ≤ (recs enc l).length ∧ 0 ≤ j.toNat * s)} {K : V → ST → List Nat → List Nat → Prop} (hi : idx? l j = some a) (h : set? l j x = some r) (he : ∀ a, (enc a).length = s) (ho : 0 + n ≤ s)
    (hn : new.length = n) (hb : (enc a).take 0 ++ new ++ (enc a).drop (0 + n) = enc x)
    (hk : (RM.ret .top).goT ((b, .row e s (recs enc r) 0) :: st) rs (b :: ws) K) : (@RM.dec (new.length = n ∧ j.toNat * s + n ≤ (recs enc l).length ∧ 0 ≤ j.toNat * s) (.put b (.row e s ((recs enc l).take (j.toNat * s) ++ new ++ (recs enc l).drop (j.toNat * s + n)) 0) (.ret .top)) d).goT st rs ws K := by
  obtain ⟨h1, h2⟩ := set_eq (o := 0) hi h he ho hn hb
  simp only [Nat.add_zero] at h1 h2
  rw [h2]; exact ⟨h1, hk⟩
end

/-! recursion -/
/-- Calls within calls, fewer than n. -/
def recN {α β : Type} (B : (α → Option β) → α → Option β) : Nat → α → Option β
  | 0, _ => none
  | n + 1, x => B (recN B n) x
open Classical in
/-- A function that calls itself, as deep as it needs. -/
noncomputable def fixC {α β : Type} (B : (α → Option β) → α → Option β) (x : α) : Option β :=
  if h : ∃ n e, recN B n x = some e then some h.choose_spec.choose else none
theorem fixC_ex {α β : Type} {B : (α → Option β) → α → Option β} {x : α} {y : β} (h : fixC B x = some y) : ∃ n, recN B n x = some y := by
  unfold fixC at h
  split at h
  · next hx => obtain rfl := Option.some.inj h; exact ⟨_, hx.choose_spec.choose_spec⟩
  · cases h
theorem fixC_of {α β : Type} {B : (α → Option β) → α → Option β} {x : α} {y : β} {n : Nat} (h : recN B n x = some y) (hu : ∀ m z, recN B m x = some z → z = y) : fixC B x = some y := by
  have hx : ∃ n e, recN B n x = some e := ⟨n, y, h⟩
  unfold fixC
  rw [dif_pos hx, hu _ _ hx.choose_spec.choose_spec]
theorem has_fix {P : Program} {f : FuncId} {α β : Type} {B : (α → Option β) → α → Option β} {enc : α → List V} {er : β → V} (h : ∀ n, Has P f (conF (recN B n) enc er)) : Has P f (conF (fixC B) enc er) := by
  refine ⟨?_, (h 0).2⟩
  intro x
  rcases x with ⟨a, r⟩
  intro F w vs hF hv hok
  obtain ⟨n, hn⟩ := fixC_ex hok
  exact (h n).1 (a, r) F w vs hF hv hn

/-- Elements that are no records. -/
def eI (k : IntKind) (n : Int) : List V := [.v (.int k n)]
def eB (b : Bool) : List V := [.v (.bool b)]
def eS {α : Type} (enc : α → List V) (l : List α) : List V := [.sl (recs enc l) l.length]

theorem e_some {A R : Type} {a : A} {J : A → Option R} {r : R} (h : (some a).bind J = some r) : J a = some r := h
theorem e_exit {S E R : Type} {step : S → Option (S ⊕ E)} {K : E → Option R} {n : Nat} {e : E} {r : R} (h : (some (Sum.inr e : S ⊕ E)).bind (nextF step K n) = some r) : K e = some r := h
end Go.Ev
/- Steps by themselves. -/
set_option linter.unusedVariables false
namespace Go.Ev
theorem fz_len {α : Type} {enc : α → List V} {s : Nat} (he : ∀ a, (enc a).length = s) (l : List α) : l.length * s = (recs enc l).length := (recs_length he l).symm
theorem set_len {α : Type} {l l' : List α} {j : Int} {x : α} (h : set? l j x = some l') : l'.length = l.length := by
  unfold set? at h
  split at h
  · cases h; simp
  · cases h
theorem lev_len {cs0 : List V} {n m : Nat} (h : n = m) : LeV (.sl cs0 n) (.sl cs0 m) := lev_eq (by rw [h])
/-- What is handed to a function. -/
theorem lv1 {cs0 ds0 : List V} (c : LeVs cs0 ds0 := by (first | exact levs_eq rfl | repeat' (first | exact lev_eq rfl | exact lev_nil | exact lev_len (set_len (by assumption)).symm | exact lev_len ((set_len (by assumption)).trans (set_len (by assumption))).symm | refine lev_tup ?_ | refine lev_agg ?_ | exact levs_eq rfl | refine levs_cons ?_ ?_))) : LeVs cs0 ds0 := c
/-- All steps that no fact is needed for. -/
theorem st1 {p q : Prop} (h : q) (c : q → p := by (intro h; (repeat (first | ((with_reducible refine go_ret ?_)) | ((with_reducible refine go_put ?_); (conv => arg 1; whnf)) | ((with_reducible apply go_get); exact rfl; (conv => arg 1; whnf)) | ((with_reducible refine go_req ?_ ?_); exact (of_decide_eq_true rfl); (conv => arg 1; whnf)) | ((with_reducible refine go_req ?_ ?_); exact trivial; (conv => arg 1; whnf)) | ((with_reducible refine go_req ?_ ?_); exact rfl; (conv => arg 1; whnf)) | ((with_reducible refine go_req ?_ ?_); exact (rlen (by intro _; rfl) _); (conv => arg 1; whnf)) | ((with_reducible refine go_req ?_ ?_); exact ⟨rlen (by intro _; rfl) _, by decide⟩; (conv => arg 1; whnf)) | ((with_reducible refine go_reqP ?_ ?_); exact rfl; (conv => arg 1; whnf)) | ((with_reducible refine ops_nil ?_)) | ((with_reducible refine ops_cons ?_ ?_ ?_); exact rfl; exact rfl; (conv => arg 1; whnf)) | ((with_reducible apply ops_take); exact rfl; exact rfl; exact rfl; exact rfl; (conv => arg 1; whnf)) | ((with_reducible apply ops_skip); exact rfl; exact rfl; exact rfl; exact rfl) | ((with_reducible apply ops_skipU); exact rfl; exact rfl; exact rfl; exact rfl) | ((with_reducible refine goT_ret ?_)) | ((with_reducible refine goT_put ?_); (conv => arg 1; whnf)) | ((with_reducible apply goT_get); exact rfl; (conv => arg 1; whnf)) | ((with_reducible refine goT_req ?_ ?_); exact (of_decide_eq_true rfl); (conv => arg 1; whnf)) | ((with_reducible refine goT_req ?_ ?_); exact trivial; (conv => arg 1; whnf)) | ((with_reducible refine goT_req ?_ ?_); exact rfl; (conv => arg 1; whnf)) | ((with_reducible refine goT_req ?_ ?_); exact (rlen (by intro _; rfl) _); (conv => arg 1; whnf)) | ((with_reducible refine goT_req ?_ ?_); exact ⟨rlen (by intro _; rfl) _, by decide⟩; (conv => arg 1; whnf)) | ((with_reducible refine goT_reqP ?_ ?_); exact rfl; (conv => arg 1; whnf)) | ((with_reducible refine d_step ?_ ?_); kernel_rfl) | ((with_reducible refine d_nil ?_)) | ((with_reducible refine d_cons ?_ ?_ ?_); exact rfl; exact rfl; (conv => arg 1; whnf)) | ((conv => arg 6; whnf); (with_reducible refine d_cons ?_ ?_ ?_); exact rfl; exact rfl; (conv => arg 1; whnf)) | ((conv => arg 5; whnf); (with_reducible refine ops_cons ?_ ?_ ?_); exact rfl; exact rfl; (conv => arg 1; whnf)) | ((with_reducible apply d_take); exact rfl; exact rfl; exact rfl; exact rfl; (conv => arg 1; whnf)) | ((with_reducible apply d_skip); exact rfl; exact rfl; exact rfl; exact rfl; (first | exact rfl | kernel_rfl)) | ((with_reducible apply d_skipU); exact rfl; exact rfl; exact rfl; exact rfl; (first | exact rfl | kernel_rfl)) | ((conv => arg 6; whnf); (with_reducible apply d_take); exact rfl; exact rfl; exact rfl; exact rfl; (conv => arg 1; whnf)) | ((conv => arg 6; whnf); (with_reducible apply d_skip); exact rfl; exact rfl; exact rfl; exact rfl; (first | exact rfl | kernel_rfl)) | ((with_reducible refine st_regionD ?_ ?_); kernel_rfl; (conv => arg 6; whnf)) | ((with_reducible refine st_seq ?_)) | ((with_reducible refine st_region rfl rfl ?_); (conv => arg 5; whnf)) | ((with_reducible refine st_block ?_)) | ((with_reducible refine st_skip ?_)) | ((with_reducible refine st_exit ?_)) | ((with_reducible refine st_ret ?_)) | ((with_reducible refine k_seq ?_)) | ((with_reducible refine k_seqX ?_)) | ((with_reducible refine k_seqR ?_)) | ((with_reducible refine k_block ?_)) | ((with_reducible refine k_blockX ?_)) | ((with_reducible refine k_blockY ?_ ?_); exact rfl) | ((with_reducible refine k_blockR ?_)) | ((with_reducible refine k_loopX ?_)) | ((with_reducible refine k_loopR ?_)) | ((with_reducible refine st_condT ?_ ?_); exact rfl) | ((with_reducible refine st_condF ?_ ?_); exact rfl))); exact h)) : p := c h
/-- The end of a function. -/
theorem en1 {p : Prop} (c : p := by ((conv => whnf); (repeat (first | (refine And.intro (fz_len (by intro _; rfl) _) ?_; conv => whnf) | (refine And.intro (of_decide_eq_true rfl) ?_; conv => whnf))); repeat' (first | exact lev_eq rfl | exact lev_nil | refine lev_tup ?_ | refine lev_agg ?_ | exact levs_eq rfl | refine levs_cons ?_ ?_))) : p := c
theorem fz_len2 {α : Type} {enc : α → List V} {s : Nat} {l l' : List α} (h : l'.length = l.length) (he : ∀ a, (enc a).length = s) : l.length * s = (recs enc l').length := by rw [← h]; exact (recs_length he l').symm
/-- The end of a function that makes a list. -/
theorem en2 {p : Prop} (c : p := by ((conv => whnf); (first | exact Or.inl ⟨_, _, _, rfl, rfl, fz_len (by intro _; rfl) _, rfl⟩ | exact Or.inr ⟨rfl, rfl⟩))) : p := c
theorem ren_osl {r : List (Nat × Nat)} {b b' n n' : Nat} (h : look r b = some b') (hn : n = n') : renV r (.osl b n) = some (.osl b' n') := by
  subst hn
  simp [renV, renP, h]
/-- The slots, the boxes at a loop's head. -/
theorem sT {p : Prop} (c : p := by (repeat (first | exact trivial | refine And.intro (Or.inl rfl) ?_ | refine And.intro (Or.inl (ren_fn (by assumption) _)) ?_ | refine And.intro (Or.inl (ren_osl rfl (by first | exact set_len (by assumption) | exact (set_len (by assumption)).trans (set_len (by assumption))))) ?_ | refine And.intro (Or.inr rfl) ?_))) : p := c
theorem sC {p : Prop} (c : p := by (repeat (first | exact trivial | refine And.intro (Or.inl rfl) ?_ | refine And.intro (Or.inl (ren_fn (by assumption) _)) ?_ | refine And.intro (Or.inl (ren_osl rfl (by first | exact set_len (by assumption) | exact (set_len (by assumption)).trans (set_len (by assumption))))) ?_ | refine And.intro (Or.inr rfl) ?_))) : p := c
theorem sS {p : Prop} (c : p := by (repeat (first | exact trivial | refine And.intro (Or.inl ⟨_, _, rfl, rfl, rfl⟩) ?_ | refine And.intro (Or.inr (Or.inl rfl)) ?_ | refine And.intro (Or.inr (Or.inr ⟨_, _, _, _, rfl, rfl, rfl, sC⟩)) ?_))) : p := c
end Go.Ev
/- What is handed to a law, read as values without memory. -/
set_option linter.unusedVariables false
set_option linter.unusedSimpArgs false
namespace Go.Ev
open Go.RowKit Go.ChangeShapes

def All2 {α β : Type} (R : α → β → Prop) : List α → List β → Prop
  | [], [] => True
  | a :: l0, b :: m0 => R a b ∧ All2 R l0 m0
  | _, _ => False

theorem all2_1 {α β : Type} {R : α → β → Prop} {x0 : α} {ls : List β} (h : All2 R [x0] ls) : ∃ a0, ls = [a0] ∧ R x0 a0 := by
  match ls, h with
  | [a0], ⟨h0, _⟩ => exact ⟨a0, rfl, h0⟩

theorem all2_2 {α β : Type} {R : α → β → Prop} {x0 x1 : α} {ls : List β} (h : All2 R [x0, x1] ls) : ∃ a0 a1, ls = [a0, a1] ∧ R x0 a0 ∧ R x1 a1 := by
  match ls, h with
  | [a0, a1], ⟨h0, h1, _⟩ => exact ⟨a0, a1, rfl, h0, h1⟩

theorem all2_3 {α β : Type} {R : α → β → Prop} {x0 x1 x2 : α} {ls : List β} (h : All2 R [x0, x1, x2] ls) : ∃ a0 a1 a2, ls = [a0, a1, a2] ∧ R x0 a0 ∧ R x1 a1 ∧ R x2 a2 := by
  match ls, h with
  | [a0, a1, a2], ⟨h0, h1, h2, _⟩ => exact ⟨a0, a1, a2, rfl, h0, h1, h2⟩

theorem all2_4 {α β : Type} {R : α → β → Prop} {x0 x1 x2 x3 : α} {ls : List β} (h : All2 R [x0, x1, x2, x3] ls) : ∃ a0 a1 a2 a3, ls = [a0, a1, a2, a3] ∧ R x0 a0 ∧ R x1 a1 ∧ R x2 a2 ∧ R x3 a3 := by
  match ls, h with
  | [a0, a1, a2, a3], ⟨h0, h1, h2, h3, _⟩ => exact ⟨a0, a1, a2, a3, rfl, h0, h1, h2, h3⟩

theorem all2_5 {α β : Type} {R : α → β → Prop} {x0 x1 x2 x3 x4 : α} {ls : List β} (h : All2 R [x0, x1, x2, x3, x4] ls) : ∃ a0 a1 a2 a3 a4, ls = [a0, a1, a2, a3, a4] ∧ R x0 a0 ∧ R x1 a1 ∧ R x2 a2 ∧ R x3 a3 ∧ R x4 a4 := by
  match ls, h with
  | [a0, a1, a2, a3, a4], ⟨h0, h1, h2, h3, h4, _⟩ => exact ⟨a0, a1, a2, a3, a4, rfl, h0, h1, h2, h3, h4⟩

theorem all2_6 {α β : Type} {R : α → β → Prop} {x0 x1 x2 x3 x4 x5 : α} {ls : List β} (h : All2 R [x0, x1, x2, x3, x4, x5] ls) : ∃ a0 a1 a2 a3 a4 a5, ls = [a0, a1, a2, a3, a4, a5] ∧ R x0 a0 ∧ R x1 a1 ∧ R x2 a2 ∧ R x3 a3 ∧ R x4 a4 ∧ R x5 a5 := by
  match ls, h with
  | [a0, a1, a2, a3, a4, a5], ⟨h0, h1, h2, h3, h4, h5, _⟩ => exact ⟨a0, a1, a2, a3, a4, a5, rfl, h0, h1, h2, h3, h4, h5⟩

theorem all2_7 {α β : Type} {R : α → β → Prop} {x0 x1 x2 x3 x4 x5 x6 : α} {ls : List β} (h : All2 R [x0, x1, x2, x3, x4, x5, x6] ls) : ∃ a0 a1 a2 a3 a4 a5 a6, ls = [a0, a1, a2, a3, a4, a5, a6] ∧ R x0 a0 ∧ R x1 a1 ∧ R x2 a2 ∧ R x3 a3 ∧ R x4 a4 ∧ R x5 a5 ∧ R x6 a6 := by
  match ls, h with
  | [a0, a1, a2, a3, a4, a5, a6], ⟨h0, h1, h2, h3, h4, h5, h6, _⟩ => exact ⟨a0, a1, a2, a3, a4, a5, a6, rfl, h0, h1, h2, h3, h4, h5, h6⟩

theorem all2_8 {α β : Type} {R : α → β → Prop} {x0 x1 x2 x3 x4 x5 x6 x7 : α} {ls : List β} (h : All2 R [x0, x1, x2, x3, x4, x5, x6, x7] ls) : ∃ a0 a1 a2 a3 a4 a5 a6 a7, ls = [a0, a1, a2, a3, a4, a5, a6, a7] ∧ R x0 a0 ∧ R x1 a1 ∧ R x2 a2 ∧ R x3 a3 ∧ R x4 a4 ∧ R x5 a5 ∧ R x6 a6 ∧ R x7 a7 := by
  match ls, h with
  | [a0, a1, a2, a3, a4, a5, a6, a7], ⟨h0, h1, h2, h3, h4, h5, h6, h7, _⟩ => exact ⟨a0, a1, a2, a3, a4, a5, a6, a7, rfl, h0, h1, h2, h3, h4, h5, h6, h7⟩

theorem all2_9 {α β : Type} {R : α → β → Prop} {x0 x1 x2 x3 x4 x5 x6 x7 x8 : α} {ls : List β} (h : All2 R [x0, x1, x2, x3, x4, x5, x6, x7, x8] ls) : ∃ a0 a1 a2 a3 a4 a5 a6 a7 a8, ls = [a0, a1, a2, a3, a4, a5, a6, a7, a8] ∧ R x0 a0 ∧ R x1 a1 ∧ R x2 a2 ∧ R x3 a3 ∧ R x4 a4 ∧ R x5 a5 ∧ R x6 a6 ∧ R x7 a7 ∧ R x8 a8 := by
  match ls, h with
  | [a0, a1, a2, a3, a4, a5, a6, a7, a8], ⟨h0, h1, h2, h3, h4, h5, h6, h7, h8, _⟩ => exact ⟨a0, a1, a2, a3, a4, a5, a6, a7, a8, rfl, h0, h1, h2, h3, h4, h5, h6, h7, h8⟩

theorem all2_10 {α β : Type} {R : α → β → Prop} {x0 x1 x2 x3 x4 x5 x6 x7 x8 x9 : α} {ls : List β} (h : All2 R [x0, x1, x2, x3, x4, x5, x6, x7, x8, x9] ls) : ∃ a0 a1 a2 a3 a4 a5 a6 a7 a8 a9, ls = [a0, a1, a2, a3, a4, a5, a6, a7, a8, a9] ∧ R x0 a0 ∧ R x1 a1 ∧ R x2 a2 ∧ R x3 a3 ∧ R x4 a4 ∧ R x5 a5 ∧ R x6 a6 ∧ R x7 a7 ∧ R x8 a8 ∧ R x9 a9 := by
  match ls, h with
  | [a0, a1, a2, a3, a4, a5, a6, a7, a8, a9], ⟨h0, h1, h2, h3, h4, h5, h6, h7, h8, h9, _⟩ => exact ⟨a0, a1, a2, a3, a4, a5, a6, a7, a8, a9, rfl, h0, h1, h2, h3, h4, h5, h6, h7, h8, h9⟩

theorem all2_11 {α β : Type} {R : α → β → Prop} {x0 x1 x2 x3 x4 x5 x6 x7 x8 x9 x10 : α} {ls : List β} (h : All2 R [x0, x1, x2, x3, x4, x5, x6, x7, x8, x9, x10] ls) : ∃ a0 a1 a2 a3 a4 a5 a6 a7 a8 a9 a10, ls = [a0, a1, a2, a3, a4, a5, a6, a7, a8, a9, a10] ∧ R x0 a0 ∧ R x1 a1 ∧ R x2 a2 ∧ R x3 a3 ∧ R x4 a4 ∧ R x5 a5 ∧ R x6 a6 ∧ R x7 a7 ∧ R x8 a8 ∧ R x9 a9 ∧ R x10 a10 := by
  match ls, h with
  | [a0, a1, a2, a3, a4, a5, a6, a7, a8, a9, a10], ⟨h0, h1, h2, h3, h4, h5, h6, h7, h8, h9, h10, _⟩ => exact ⟨a0, a1, a2, a3, a4, a5, a6, a7, a8, a9, a10, rfl, h0, h1, h2, h3, h4, h5, h6, h7, h8, h9, h10⟩

theorem all2_12 {α β : Type} {R : α → β → Prop} {x0 x1 x2 x3 x4 x5 x6 x7 x8 x9 x10 x11 : α} {ls : List β} (h : All2 R [x0, x1, x2, x3, x4, x5, x6, x7, x8, x9, x10, x11] ls) : ∃ a0 a1 a2 a3 a4 a5 a6 a7 a8 a9 a10 a11, ls = [a0, a1, a2, a3, a4, a5, a6, a7, a8, a9, a10, a11] ∧ R x0 a0 ∧ R x1 a1 ∧ R x2 a2 ∧ R x3 a3 ∧ R x4 a4 ∧ R x5 a5 ∧ R x6 a6 ∧ R x7 a7 ∧ R x8 a8 ∧ R x9 a9 ∧ R x10 a10 ∧ R x11 a11 := by
  match ls, h with
  | [a0, a1, a2, a3, a4, a5, a6, a7, a8, a9, a10, a11], ⟨h0, h1, h2, h3, h4, h5, h6, h7, h8, h9, h10, h11, _⟩ => exact ⟨a0, a1, a2, a3, a4, a5, a6, a7, a8, a9, a10, a11, rfl, h0, h1, h2, h3, h4, h5, h6, h7, h8, h9, h10, h11⟩

/-- The cells of a value of a type. -/
def Typ (P : Program) : Nat → TypeId → List V → Prop
  | 0, _, _ => False
  | n + 1, t, vs => match P.underlying t with
    | some .bool => ∃ b, vs = [.v (.bool b)]
    | some (.int k) => ∃ i, vs = [.v (.int k i)] ∧ (Lit.int k i).wf = true
    | some .string => ∃ s : ByteArray, vs = [.v (.string s)] ∧ s.size ≤ reachBytes
    | some (.slice e) => ∃ ls : List (List V), vs = [.sl ls.flatten ls.length] ∧ (∀ l ∈ ls, Typ P n e l) ∧ ls.length * P.bytesOf e ≤ reachBytes
    | some (.struct fs) => ∃ ls : List (List V), vs = ls.flatten ∧ All2 (fun (f : Field) l => Typ P n f.type l) fs.toList ls
    | some (.array k e) => ∃ ls : List (List V), vs = ls.flatten ∧ ls.length = k ∧ ∀ l ∈ ls, Typ P n e l
    | _ => False

section
variable {P : Program} {H : Type} {enc : TypeId × Value → H} {W : World}

theorem cells?_eq {g o n : Nat} {l : List Value} (h : W.cells? 0 ⟨g, o, none⟩ n = some l) : ((cellsAt W.heap g).drop o).take n = l ∧ l.length = n := by
  simp only [World.cells?, Nat.zero_le, if_true] at h
  obtain ⟨h1, h2⟩ := mapM_get (f := fun i => W.cell? (Addr.add ⟨g, o, none⟩ i)) h
  have hl : l.length = n := by rw [← h1]; simp
  refine ⟨?_, hl⟩
  apply List.ext_getElem?
  intro i
  by_cases hi : i < n
  · rw [List.getElem?_take, if_pos hi, List.getElem?_drop]
    obtain ⟨v, hv1, hv2⟩ := h2 i i (by simp [hi])
    rw [hv1]
    have e : Addr.add ⟨g, o, none⟩ i = ⟨g, o + i, none⟩ := by
      unfold Addr.add
      split
      · next e => subst e; rfl
      · rfl
    rw [e] at hv2
    unfold World.cell? at hv2
    unfold cellsAt
    split at hv2
    · next c _ _ hh => simp at hv2; simp [hh, hv2]
    · cases hv2
  · rw [List.getElem?_eq_none (by rw [List.length_take]; omega), List.getElem?_eq_none (by omega)]

theorem cells?_lt {g o n : Nat} {l : List Value} (h : W.cells? 0 ⟨g, o, none⟩ n = some l) (hn : 0 < n) : g < W.heap.size := by
  obtain ⟨h1, h2⟩ := cells?_eq h
  refine Decidable.byContradiction fun hc => ?_
  have : cellsAt W.heap g = [] := by unfold cellsAt; rw [Array.getElem?_eq_none (by omega)]
  rw [this] at h1
  simp at h1
  subst h1
  simp at h2
  omega

theorem RCs_append_iff {F : FZ} {Hp : Array Obj} {one : Bool} {cs ds : List V} {xs ys : List Value} (h : RCs F Hp one cs xs) (k : RCs F Hp one ds ys) : RCs F Hp one (cs ++ ds) (xs ++ ys) := RCs_append h k

theorem weightsAll_mem {p : Nat → Bool} {e : TypeId} : ∀ {ds : List (DataW H)}, (DataW.weightsAll P e ds).all p = true → ∀ d ∈ ds, (d.weights P e).all p = true
  | [], _, d, h => by cases h
  | d0 :: ds, h, d, hd => by
    simp only [DataW.weightsAll, List.all_append, Bool.and_eq_true] at h
    cases hd with
    | head => exact h.1
    | tail _ hd => exact weightsAll_mem h.2 d hd

theorem weightsEach_get {p : Nat → Bool} : ∀ {ts : List TypeId} {ds : List (DataW H)}, (DataW.weightsEach P ts ds).all p = true → ∀ (i : Nat) (t : TypeId) (d : DataW H), ts[i]? = some t → ds[i]? = some d → (d.weights P t).all p = true
  | [], _, _, i, t, d, ht, _ => by simp at ht
  | _ :: _, [], _, i, t, d, _, hd => by simp at hd
  | t0 :: ts, d0 :: ds, h, i, t, d, ht, hd => by
    simp only [DataW.weightsEach, List.all_append, Bool.and_eq_true] at h
    cases i with
    | zero => simp at ht hd; subst ht hd; exact h.1
    | succ i => exact weightsEach_get h.2 i t d (by simpa using ht) (by simpa using hd)

theorem pieces {F : FZ} {Hp : Array Obj} {size : Field → Nat} {Q : Field → List V → Prop} : ∀ (fs : List Field) (off : Nat) (cs : List Value), (∀ (j : Nat) (f : Field), fs[j]? = some f → f.offset = off + ((fs.take j).map size).sum) →
    (∀ (j : Nat) (f : Field), fs[j]? = some f → ∃ vs, RCs F Hp true vs ((cs.drop f.offset).take (size f)) ∧ Q f vs) → off + (fs.map size).sum = cs.length → ∃ ls : List (List V), RCs F Hp true ls.flatten (cs.drop off) ∧ All2 Q fs ls
  | [], off, cs, _, _, hl => by
    refine ⟨[], ?_, trivial⟩
    rw [List.drop_of_length_le (by simp at hl; omega)]
    trivial
  | f :: fs, off, cs, ho, hp, hl => by
    obtain ⟨vs, h1, h2⟩ := hp 0 f rfl
    have ho0 : f.offset = off := by have := ho 0 f rfl; simpa using this
    rw [ho0] at h1
    obtain ⟨ls, h3, h4⟩ := pieces fs (off + size f) cs (by
      intro j f' hf
      have := ho (j + 1) f' (by simpa using hf)
      rw [this, List.take_succ_cons, List.map_cons, List.sum_cons]
      omega) (fun j f' hf => hp (j + 1) f' (by simpa using hf)) (by simp at hl; omega)
    refine ⟨vs :: ls, ?_, h2, h4⟩
    rw [List.flatten_cons]
    have : cs.drop off = (cs.drop off).take (size f) ++ cs.drop (off + size f) := by rw [← List.drop_drop, List.take_append_drop]
    rw [this]
    exact RCs_append h1 h3

theorem rows_RCs {F : FZ} {Hp : Array Obj} {L : List Value} {size : Nat} {Q : List V → Prop} : ∀ (n : Nat), (∀ i, i < n → ∃ vs, RCs F Hp true vs ((L.drop (i * size)).take size) ∧ Q vs) →
    ∃ ls : List (List V), ls.length = n ∧ RCs F Hp true ls.flatten (L.take (n * size)) ∧ ∀ l ∈ ls, Q l
  | 0, _ => ⟨[], rfl, by simp [RCs], by simp⟩
  | n + 1, h => by
    obtain ⟨ls, h1, h2, h3⟩ := rows_RCs n fun i hi => h i (by omega)
    obtain ⟨vs, h4, h5⟩ := h n (by omega)
    refine ⟨ls ++ [vs], by simp [h1], ?_, ?_⟩
    · rw [List.flatten_append, Nat.add_mul, Nat.one_mul, List.take_add]
      simpa using RCs_append h2 h4
    · intro l hl
      rcases List.mem_append.1 hl with hl | hl
      · exact h3 l hl
      · simp at hl; subst hl; exact h5

/-- Types without pointers, maps, functions; structs and arrays lie cell by cell. -/
def plainT (P : Program) : Nat → TypeId → Bool
  | 0, _ => false
  | n + 1, t => match P.underlying t with
    | some .bool => true
    | some (.int _) => true
    | some .string => true
    | some (.slice e) => plainT P n e
    | some (.struct fs) => fs.toList.all (fun f => plainT P n f.type) && P.cellsOf t == (fs.toList.map fun f => P.cellsOf f.type).sum &&
        (List.range fs.toList.length).all fun j => match fs.toList[j]? with | some f => f.offset == ((fs.toList.take j).map fun f => P.cellsOf f.type).sum | none => true
    | some (.array k e) => plainT P n e && P.cellsOf t == k * P.cellsOf e
    | _ => false

theorem RCs_lit {v : Value} (h : v.oneCell' = true) : RCs (fun g _ => g < W.heap.size) W.heap true [.v v] [v] := ⟨⟨rfl, fun _ => h⟩, trivial⟩

theorem mapM_opt {α β : Type} {f : α → Option β} : ∀ {l : List α} {l' : List β}, l.mapM f = some l' → l.length = l'.length ∧ ∀ (i : Nat) (a : α), l[i]? = some a → ∃ b, l'[i]? = some b ∧ f a = some b := mapM_get

/-- WHAT CAN BE READ AS DATA HAS CELLS OF ITS TYPE. -/
theorem trod_typ {sp : Nat → Bool} {held : Bool} : ∀ (k : Nat) (t : TypeId), plainT P k t = true → ∀ (fuel : Nat) (cs : List Value) (x : DataW H × List MemPlace),
    DataW.trod enc P W 0 sp held fuel t cs = some x → (x.1.weights P t).all (· ≤ reachBytes) = true → ∃ vs, RCs (fun g _ => g < W.heap.size) W.heap true vs cs ∧ Typ P k t vs
  | 0, t, hp, _, _, _, _, _ => by cases hp
  | k + 1, t, hp, fuel, cs, x, h, hw => by
    simp only [plainT] at hp
    split at hp
    · next ht =>
      obtain ⟨b, rfl, rfl⟩ := DataW.trod_bool ht h
      simp only [Typ, ht]
      exact ⟨_, RCs_lit rfl, b, rfl⟩
    · next kk ht =>
      obtain ⟨n, rfl, rfl, hwf⟩ := DataW.trod_int ht h
      simp only [Typ, ht]
      exact ⟨_, RCs_lit rfl, n, rfl, hwf⟩
    · next ht =>
      obtain ⟨s, rfl, rfl, hs⟩ := DataW.trod_string ht h
      simp only [Typ, ht]
      refine ⟨_, RCs_lit rfl, s, rfl, ?_⟩
      simp [DataW.weights] at hw
      exact hw
    · next e ht =>
      simp only [Typ, ht]
      rcases DataW.trod_slice ht h with ⟨rfl, rfl⟩ | ⟨a, len, cap, elems, rest, n, rfl, rfl, rfl, hb, hlc, hm, hlen, hel, _, _⟩
      · exact ⟨[.sl [] 0], ⟨⟨⟨none, 0, rfl, Nat.le_refl _, Nat.zero_le _, .inl rfl⟩, fun _ => rfl⟩, trivial⟩, [], rfl, by simp, by simp⟩
      · simp only [DataW.weights, ht, List.all_cons, Bool.and_eq_true, decide_eq_true_eq, List.all_append, List.length_map] at hw
        obtain ⟨hw1, hw2, _⟩ := hw
        have key : ∀ i, i < len → ∃ ecs y, W.cells? 0 (a.add (i * P.cellsOf e)) (P.cellsOf e) = some ecs ∧ DataW.trod enc P W 0 sp held n e ecs = some y ∧ (y.1.weights P e).all (· ≤ reachBytes) = true := by
          intro i hi
          have h1 := hel i hi
          have hie : i < elems.length := by omega
          rw [List.getElem?_eq_getElem hie, Option.bind_eq_some_iff] at h1
          obtain ⟨ecs, h2, h3⟩ := h1
          exact ⟨ecs, _, h2, h3, weightsAll_mem hw2 _ (List.mem_map.2 ⟨_, List.getElem_mem hie, rfl⟩)⟩
        obtain ⟨g, off, spot⟩ := a
        have hbound : len * P.bytesOf e ≤ reachBytes := Nat.le_trans (Nat.mul_le_mul_right _ (by omega)) hw1
        by_cases hz : len * P.cellsOf e = 0
        · -- no cells
          have : ∃ ls : List (List V), ls.length = len ∧ ls.flatten = [] ∧ ∀ l ∈ ls, Typ P k e l := by
            refine ⟨List.replicate len [], by simp, by simp, ?_⟩
            intro l hl
            obtain ⟨hl1, rfl⟩ := List.mem_replicate.1 hl
            have hlen0 : 0 < len := by omega
            have hc0 : P.cellsOf e = 0 := by
              rcases Nat.mul_eq_zero.1 hz with h | h
              · omega
              · exact h
            obtain ⟨ecs, y, h1, h2, h3⟩ := key 0 hlen0
            obtain ⟨vs, h4, h5⟩ := trod_typ k e hp n ecs y h2 h3
            have : ecs = [] := by
              simp [World.cells?, hc0] at h1
              exact h1
            subst this
            have := RCs_length h4
            simp at this
            subst this
            exact h5
          obtain ⟨ls, l1, l2, l3⟩ := this
          exact ⟨[.sl ls.flatten ls.length], ⟨⟨⟨_, cap, by rw [l1], by omega, hm, .inl l2⟩, fun _ => rfl⟩, trivial⟩, ls, rfl, l3, by rw [l1]; exact hbound⟩
        · have hpos : 0 < len ∧ 0 < P.cellsOf e := ⟨Nat.pos_of_ne_zero fun e0 => hz (by rw [e0, Nat.zero_mul]), Nat.pos_of_ne_zero fun e0 => hz (by rw [e0, Nat.mul_zero])⟩
          have hspot : spot = none := by
            obtain ⟨ecs, y, h1, _⟩ := key 0 hpos.1
            rw [Nat.zero_mul] at h1
            simp only [World.cells?, Nat.zero_le, if_true] at h1
            obtain ⟨_, h2⟩ := mapM_opt (f := fun i => W.cell? ((Addr.add ⟨g, off, spot⟩ 0).add i)) h1
            obtain ⟨v, _, h3⟩ := h2 0 0 (by simp [hpos.2])
            cases spot with
            | none => rfl
            | some q =>
              unfold World.cell? at h3
              split at h3
              · simp [Addr.add] at h3
              · cases h3
          subst hspot
          have hadd : ∀ i, Addr.add ⟨g, off, none⟩ (i * P.cellsOf e) = ⟨g, off + i * P.cellsOf e, none⟩ := by
            intro i
            unfold Addr.add
            split
            · next e0 => rw [e0]; rfl
            · rfl
          have hlt : g < W.heap.size := by
            obtain ⟨ecs, y, h1, _⟩ := key 0 hpos.1
            rw [hadd] at h1
            exact cells?_lt h1 hpos.2
          obtain ⟨ls, l1, l2, l3⟩ := rows_RCs (F := fun g _ => g < W.heap.size) (Hp := W.heap) (L := (cellsAt W.heap g).drop off) (size := P.cellsOf e) (Q := Typ P k e) len (by
            intro i hi
            obtain ⟨ecs, y, h1, h2, h3⟩ := key i hi
            obtain ⟨vs, h4, h5⟩ := trod_typ k e hp n ecs y h2 h3
            rw [hadd] at h1
            obtain ⟨h6, _⟩ := cells?_eq h1
            refine ⟨vs, ?_, h5⟩
            rw [List.drop_drop, h6]
            exact h4)
          have hfl : ls.flatten.length ≤ len * P.cellsOf e := by
            have := RCs_length l2
            rw [List.length_take] at this
            omega
          refine ⟨[.sl ls.flatten ls.length], ⟨⟨⟨_, cap, by rw [l1], by omega, hm, .inr ⟨g, off, rfl, fun _ _ => hlt, ?_⟩⟩, fun _ => rfl⟩, trivial⟩, ls, rfl, l3, by rw [l1]; exact hbound⟩
          have e1 := RCs_length l2
          have : ((cellsAt W.heap g).drop off).take ls.flatten.length = ((cellsAt W.heap g).drop off).take (len * P.cellsOf e) := by
            rw [e1, List.length_take]
            rcases Nat.le_total (len * P.cellsOf e) ((cellsAt W.heap g).drop off).length with hh | hh
            · rw [Nat.min_eq_left hh]
            · rw [Nat.min_eq_right hh, List.take_of_length_le (Nat.le_refl _), List.take_of_length_le hh]
          rw [this]
          exact l2
    · next fs ht =>
      simp only [Typ, ht]
      rw [Bool.and_eq_true, Bool.and_eq_true] at hp
      obtain ⟨⟨hp1, hp2⟩, hp3⟩ := hp
      obtain ⟨xs, n, rfl, rfl, hlen, hxs, hf⟩ := DataW.trod_struct ht h
      simp only [DataW.weights, ht] at hw
      obtain ⟨ls, l1, l2⟩ := pieces (F := fun g _ => g < W.heap.size) (Hp := W.heap) (size := fun f => P.cellsOf f.type) (Q := fun f l => Typ P k f.type l) fs.toList 0 cs (by
        intro j f hj
        have hjl : j < fs.toList.length := (List.getElem?_eq_some_iff.1 hj).1
        have := List.all_eq_true.1 hp3 j (List.mem_range.2 hjl)
        simp only [hj, beq_iff_eq] at this
        omega) (by
        intro j f hj
        have hj' : fs[j]? = some f := by rw [← Array.getElem?_toList]; exact hj
        have h1 := hf j f hj'
        have hjx : j < xs.length := by rw [hxs]; have := (List.getElem?_eq_some_iff.1 hj).1; simpa using this
        rw [List.getElem?_eq_getElem hjx] at h1
        refine trod_typ k f.type (List.all_eq_true.1 hp1 f (List.mem_of_getElem? hj)) n _ _ h1 ?_
        exact weightsEach_get hw j f.type _ (by simp [hj]) (by simp [hjx])) (by
        rw [hlen, beq_iff_eq.1 hp2]; omega)
      exact ⟨ls.flatten, by simpa using l1, ls, rfl, l2⟩
    · next m e ht =>
      simp only [Typ, ht]
      rw [Bool.and_eq_true] at hp
      obtain ⟨hp1, hp2⟩ := hp
      obtain ⟨xs, n, rfl, rfl, hlen, hxs, hf⟩ := DataW.trod_array ht h
      simp only [DataW.weights, ht] at hw
      obtain ⟨ls, l1, l2, l3⟩ := rows_RCs (F := fun g _ => g < W.heap.size) (Hp := W.heap) (L := cs) (size := P.cellsOf e) (Q := Typ P k e) m (by
        intro i hi
        have h1 := hf i hi
        have hix : i < xs.length := by omega
        rw [List.getElem?_eq_getElem hix] at h1
        exact trod_typ k e hp1 n _ _ h1 (weightsAll_mem hw _ (List.mem_map.2 ⟨_, List.getElem_mem hix, rfl⟩)))
      refine ⟨ls.flatten, ?_, ls, rfl, l1, l3⟩
      rw [beq_iff_eq.1 hp2] at hlen
      rwa [List.take_of_length_le (by omega)] at l2
    · cases hp
end

/-- A value out of its cells. -/
def typeV (P : Program) (t : TypeId) (vs : List V) : V := match P.underlying t with
  | some (.struct _) => .agg vs
  | some (.array _ _) => .agg vs
  | _ => (vs[0]?).getD .top

section
variable {P : Program} {H : Type} {enc : TypeId × Value → H} {W W' : World}

theorem cells_agg {v c : Value} (h : v.cells.toList = [c]) : v = c ∨ v = .agg #[c] := by
  cases v with
  | agg cs =>
    right
    have : cs.toList = [c] := h
    rw [show cs = #[c] from Array.ext' this]
  | _ => left; simpa [Value.cells] using h

theorem typeV_RC {F : FZ} {Hp : Array Obj} {r : Reach} {b0 k : Nat} {t : TypeId} {v : Value} {vs : List V} (hval : Value.okWide P W r b0 t v) (hr : RCs F Hp true vs v.cells.toList) (ht : Typ P k t vs) : RC F Hp (typeV P t vs) v := by
  cases k with
  | zero => exact ht.elim
  | succ k =>
    have single : ∀ c, vs = [c] → typeV P t vs = c → (∀ x, ¬ Value.okWide P W r b0 t (.agg x)) → RC F Hp (typeV P t vs) v := by
      intro c hc htv hno
      subst hc
      rw [htv]
      obtain ⟨x, hx⟩ : ∃ x, v.cells.toList = [x] := by
        have := RCs_length hr
        match hv : v.cells.toList with
        | [x] => exact ⟨x, rfl⟩
        | [] => rw [hv] at this; simp at this
        | _ :: _ :: _ => rw [hv] at this; simp at this
      rw [hx] at hr
      rcases cells_agg hx with rfl | rfl
      · exact hr.1.1
      · exact absurd hval (hno _)
    unfold Typ at ht
    split at ht
    · next hu =>
      obtain ⟨b, hb⟩ := ht
      exact single _ hb (by simp [typeV, hu, hb]) (by intro x; simp [Value.okWide, hu, Cell.okWide, Cell.ok])
    · next kk hu =>
      obtain ⟨i, hb, _⟩ := ht
      exact single _ hb (by simp [typeV, hu, hb]) (by intro x; simp [Value.okWide, hu, Cell.okWide, Cell.ok])
    · next hu =>
      obtain ⟨b, hb, _⟩ := ht
      exact single _ hb (by simp [typeV, hu, hb]) (by intro x; simp [Value.okWide, hu, Cell.okWide, Cell.ok])
    · next e hu =>
      obtain ⟨b, hb, _⟩ := ht
      exact single _ hb (by simp [typeV, hu, hb]) (by intro x; simp [Value.okWide, hu, Cell.okWide, Cell.ok])
    · next fs hu =>
      simp only [Value.okWide, hu] at hval
      obtain ⟨cs, rfl, _⟩ := hval
      simp only [typeV, hu]
      exact ⟨cs, rfl, hr⟩
    · next n e hu =>
      simp only [Value.okWide, hu] at hval
      obtain ⟨cs, rfl, _⟩ := hval
      simp only [typeV, hu]
      exact ⟨cs, rfl, hr⟩
    · exact ht.elim

/-- The arguments, one by one. -/
theorem args_typ {sp : Nat → Bool} {held : Bool} {r : Reach} {b0 k : Nat} : ∀ (ts : List TypeId) (args : List Value) (ds : List (DataW H)) (ps : List MemPlace), ts.all (plainT P k) = true → DataW.TrodAll enc P W 0 sp held ts args ds ps →
    (∀ (j : Nat) t v, ts[j]? = some t → args[j]? = some v → Value.okWide P W r b0 t v) → (DataW.weightsEach P ts ds).all (· ≤ reachBytes) = true →
    ∃ vss : List (List V), All2 (fun t vs => Typ P k t vs) ts vss ∧ RCs (fun g _ => g < W.heap.size) W.heap false ((ts.zip vss).map fun (t, vs) => typeV P t vs) args
  | [], args, ds, ps, _, h, _, _ => by
    obtain ⟨rfl, rfl, rfl⟩ := trodAll_nil h
    exact ⟨[], trivial, trivial⟩
  | t :: ts, args, ds, ps, hp, h, hval, hw => by
    obtain ⟨v, vs1, d, ds1, p, q, rfl, rfl, rfl, h1, h2⟩ := trodAll_cons h
    simp only [List.all_cons, Bool.and_eq_true] at hp
    simp only [DataW.weightsEach, List.all_append, Bool.and_eq_true] at hw
    obtain ⟨vss, a1, a2⟩ := args_typ ts vs1 ds1 q hp.2 h2 (fun j t v e1 e2 => hval (j + 1) t v (by simpa using e1) (by simpa using e2)) hw.2
    obtain ⟨fuel, hf⟩ := h1
    obtain ⟨vs, c1, c2⟩ := trod_typ k t hp.1 fuel _ _ hf hw.1
    exact ⟨vs :: vss, ⟨c2, a1⟩, ⟨typeV_RC (hval 0 t v rfl rfl) c1 c2, fun e => by cases e⟩, a2⟩

theorem stays_all (hl : laidOutB P = true) (hb : Below W.heap.size W W') {sp : Nat → Bool} : ∀ (ts : List TypeId) (args : List Value) (ds : List (DataW H)) (ps : List MemPlace), ts.all (fun t => P.readableRec t && decide (t < P.types.size)) = true →
    DataW.TrodAll enc P W 0 (fun _ => true) true ts args ds ps → (∀ p ∈ ps, p.block < W.heap.size) → (∀ p ∈ ps, sp p.block = true) → DataW.TrodAll enc P W' 0 sp true ts args ds ps
  | [], args, ds, ps, _, h, _, _ => by
    obtain ⟨rfl, rfl, rfl⟩ := trodAll_nil h
    exact trodAll_mk0
  | t :: ts, args, ds, ps, hr, h, hlt, hsp => by
    obtain ⟨v, vs1, d, ds1, p, q, rfl, rfl, rfl, h1, h2⟩ := trodAll_cons h
    simp only [List.all_cons, Bool.and_eq_true, decide_eq_true_eq] at hr
    refine trodAll_cons_mk ?_ (stays_all hl hb ts vs1 ds1 q hr.2 h2 (fun p hp => hlt p (by simp [hp])) (fun p hp => hsp p (by simp [hp])))
    exact WideElems.Trod_stays hl hr.1.1 hr.1.2 h1 (fun x hx => hb.same (hlt x (by simp [hx]))) (fun x hx => hsp x (by simp [hx]))

theorem trod_len {sp : Nat → Bool} {held : Bool} {b0 : Nat} : ∀ (ts : List TypeId) (args : List Value) (ds : List (DataW H)) (ps : List MemPlace), DataW.TrodAll enc P W b0 sp held ts args ds ps → ds.length = ts.length
  | [], args, ds, ps, h => by
    obtain ⟨rfl, rfl, rfl⟩ := trodAll_nil h
    rfl
  | t :: ts, args, ds, ps, h => by
    obtain ⟨v, vs1, d, ds1, p, q, rfl, rfl, rfl, h1, h2⟩ := trodAll_cons h
    simp [trod_len ts vs1 ds1 q h2]

/-- A LAW: WHATEVER THE INPUT: true, and what was there lies as it lay. -/
theorem lifted_law {C : Checked} {os : Os} {f : FuncId} {fn : Func} {s : ChangeSpec} {tb : TypeId} {k : Nat} {con : Con}
    (own : ownKnob C.prog.godebug = none) (started : os.Started) (noInit : C.prog.inits.idxOf? f = none) (hfn : C.prog.funcs[f]? = some fn)
    (witness : ∃ (w : World) (tape : Tape) (i : Input), w.os = os ∧ (w.forCall tape i).Shaped C.prog ∧ i.vars = [] ∧ Input.okWide C.prog (w.forCall tape i) .any w.heap.size f i ∧
      s.pre6 enc C.prog fn [] false (w.forCall tape i).memory i.args ∧ ({} : Assume).holds C.prog (lone (Frame.enter C.prog f i.args .normal) [] (w.forCall tape i)))
    (hvars : s.vars = []) (hspec : ∀ ds : List (DataW H), ds.length = fn.params.size → s.fn H ds = { results := [.lit (.bool true)], args := ds })
    (hres : fn.resultTypes = #[tb]) (hb : C.prog.underlying tb = some .bool) (hplain : fn.params.toList.all (plainT C.prog k) = true) (hl : laidOutB C.prog = true)
    (hread : fn.params.toList.all (fun t => C.prog.readableRec t && decide (t < C.prog.types.size)) = true)
    (hcon : Has C.prog f con) (hce : con.eff = none) (hcr : ∀ x, con.res x = .v (.bool true))
    (hargs : ∀ vss : List (List V), All2 (fun t vs => Typ C.prog k t vs) fn.params.toList vss → ∃ x, con.enc x = ((fn.params.toList.zip vss).map fun (t, vs) => typeV C.prog t vs) ∧ con.ok x)
    (hcf : con.frs = .keep := by rfl) :
    ReturnsInHanded {} C os f .any (s.pre6 enc C.prog fn [] false) (s.post enc C.prog fn false true false false) := by
  refine returnsInHanded_of_change_sized own started noInit hfn witness ?_
  intro W base args ds gs before hval hW _ hw _
  have hW' := hW
  obtain ⟨p, q, hA, hV, rfl, hfz, hnd⟩ := hW
  rw [hvars] at hV
  obtain ⟨rfl, rfl⟩ : gs = [] ∧ q = [] := by
    cases gs with
    | nil => exact ⟨rfl, hV⟩
    | cons _ _ => exact hV.elim
  have hlen := trod_len _ _ _ _ hA
  have hw1 : (DataW.weightsEach C.prog fn.params.toList ds).all (· ≤ reachBytes) = true := by
    have e : s.plain.varTypes C.prog = [] := by simp [ChangeSpec.plain, DataSpec.varTypes, hvars]
    rw [e, List.append_nil, List.append_nil] at hw
    exact hw
  obtain ⟨vss, a1, a2⟩ := args_typ fn.params.toList args.toList ds p hplain hA (fun j t v e1 e2 => hval j t v (by rw [← Array.getElem?_toList]; exact e1) (by rw [← Array.getElem?_toList]; exact e2)) hw1
  obtain ⟨x, henc, hok⟩ := hargs vss a1
  have hs : SoundV C.prog f con := by have := hcon.1; simpa only [Sound, hce, hcf] using this
  have hcall := hs x (fun g _ => g < W.heap.size) W args.toList (fun g j e => e) (by rw [henc]; exact a2) hok
  rw [show args.toList.toArray = args by simp] at hcall
  refine hcall.mono ?_
  rintro e W' ⟨v, F', rfl, hbl, _, _, _, hr⟩
  rw [hcr] at hr
  have hr : v = .bool true := hr
  subst hr
  have hds : ds.length = fn.params.size := by rw [hlen]; simp
  have hspec' := hspec ds hds
  have hlt : ∀ pl ∈ p ++ [], pl.block < W.heap.size := fun pl hp => hW'.lt pl hp
  have hA' : ∀ sp : Nat → Bool, (∀ pl ∈ p ++ [], sp pl.block = true) → DataW.TrodAll enc C.prog W' 0 sp true fn.params.toList args.toList ds p :=
    fun sp hsp => stays_all hl hbl fn.params.toList args.toList ds p hread hA (fun pl hp => hlt pl (by simp [hp])) (fun pl hp => hsp pl (by simp [hp]))
  have hres' : ∀ (b : Nat) (sp : Nat → Bool) (hd : Bool), DataW.TrodAll enc C.prog W' b sp hd fn.resultTypes.toList ((Value.bool true).resultList fn.resultTypes.size) [.lit (.bool true)] [] := by
    intro b sp hd
    rw [hres]
    exact trodAll_cons_mk (shut_bool hb _) trodAll_mk0
  refine ⟨_, rfl, ds, [], p ++ [], [], p, [], hW', ?_, ?_, ?_, ?_, fun ha => by cases ha⟩
  · rw [List.append_nil, hspec']
    exact hres' _ _ _
  · rw [List.append_nil, hspec']
    exact hA' _ fun pl hp => by simpa using hlt pl hp
  · rw [hvars, List.append_nil, hspec']
    rfl
  · exact hbl.frame _
end
end Go.Ev
/- A law, by what it is over data. -/
set_option linter.unusedVariables false
namespace Go.Ev
/-- A function that is true where its data say so. -/
def conL {α : Type} (F : α → Option Bool) (enc : α → List V) : Con := { α := α, enc := enc, ok := fun x => F x = some true, res := fun _ => .v (.bool true) }
theorem has_law {P : Program} {f : FuncId} {α : Type} {F : α → Option Bool} {enc : α → List V} {er : Bool → V} (h : Has P f (conF F enc er)) (he : er true = .v (.bool true)) : Has P f (conL F enc) := by
  refine ⟨?_, h.2⟩
  intro x F' w vs hF hv hok
  have := h.1 (x, true) F' w vs hF hv hok
  rw [show (conF F enc er).res (x, true) = .v (.bool true) from he] at this
  exact this
end Go.Ev
/- What is wanted of loops, lists and numbers, over data. -/
set_option linter.unusedVariables false
set_option linter.unusedSimpArgs false
namespace Go.Ev

theorem loop_run {S E : Type} {step : S → Option (S ⊕ E)} (st : Nat → S) (n : Nat) {e : E} (h : ∀ k, k < n → step (st k) = some (.inl (st (k + 1)))) (he : step (st n) = some (.inr e)) : loopC step (st 0) = some e := by
  have key : ∀ j, j ≤ n → loopC step (st (n - j)) = some e := by
    intro j
    induction j with
    | zero => intro _; rw [Nat.sub_zero, loopC_eq, he]
    | succ j ih =>
      intro hj
      rw [loopC_eq, h _ (by omega), show n - (j + 1) + 1 = n - j by omega]
      exact ih (by omega)
  have := key n (Nat.le_refl _)
  rwa [Nat.sub_self] at this

/-- Rounds over a list, until one fails. -/
theorem loop_list {α S E : Type} {step : S → Option (S ⊕ E)} (l : List α) (st : Nat → S) (q : α → Bool) {e f : E} (h : ∀ k (hk : k < l.length), step (st k) = some (if q l[k] then .inl (st (k + 1)) else .inr f)) (he : step (st l.length) = some (.inr e)) :
    loopC step (st 0) = some (if l.all q then e else f) := by
  have key : ∀ j, j ≤ l.length → loopC step (st (l.length - j)) = some (if (l.drop (l.length - j)).all q then e else f) := by
    intro j
    induction j with
    | zero => intro _; rw [Nat.sub_zero, loopC_eq, he]; simp
    | succ j ih =>
      intro hj
      have hlt : l.length - (j + 1) < l.length := by omega
      rw [loopC_eq, h _ hlt, List.drop_eq_getElem_cons hlt, show l.length - (j + 1) + 1 = l.length - j by omega]
      cases hq : q l[l.length - (j + 1)] with
      | true => simp only [if_true, List.all_cons, hq, Bool.true_and]; exact ih (by omega)
      | false => simp [hq]
  have := key l.length (Nat.le_refl _)
  rwa [Nat.sub_self, List.drop_zero] at this

/-- Rounds over a list that gather something, until one fails. -/
def gath {α σ E : Type} (g : σ → α → σ ⊕ E) (o : σ ⊕ E) (a : α) : σ ⊕ E := match o with
  | .inl s => g s a
  | .inr f => .inr f
theorem gath_inr {α σ E : Type} (g : σ → α → σ ⊕ E) (m : List α) (f : E) : m.foldl (gath g) (.inr f) = .inr f := by
  induction m with
  | nil => rfl
  | cons a m ih => simpa [gath] using ih
theorem loop_gather {α σ S E : Type} {step : S → Option (S ⊕ E)} (l : List α) (st : Nat → σ → S) (g : σ → α → σ ⊕ E) (e : σ → E) (h : ∀ k s (hk : k < l.length), step (st k s) = some (match g s l[k] with | .inl s' => .inl (st (k + 1) s') | .inr f => .inr f)) (he : ∀ s, step (st l.length s) = some (.inr (e s))) (s : σ) :
    loopC step (st 0 s) = some (match l.foldl (gath g) (.inl s) with | .inl s => e s | .inr f => f) := by
  have key : ∀ j, j ≤ l.length → ∀ s, loopC step (st (l.length - j) s) = some (match (l.drop (l.length - j)).foldl (gath g) (.inl s) with | .inl s => e s | .inr f => f) := by
    intro j
    induction j with
    | zero => intro _ s; rw [Nat.sub_zero, loopC_eq, he]; simp
    | succ j ih =>
      intro hj s
      have hlt : l.length - (j + 1) < l.length := by omega
      rw [loopC_eq, h _ _ hlt, List.drop_eq_getElem_cons hlt, show l.length - (j + 1) + 1 = l.length - j by omega, List.foldl_cons]
      simp only [gath]
      cases hg : g s l[l.length - (j + 1)] with
      | inl s' => simp only; exact ih (by omega) s'
      | inr f => simp only [gath_inr]
  have := key l.length (Nat.le_refl _) s
  rwa [Nat.sub_self, List.drop_zero] at this

theorem idx?_nat {α : Type} {l : List α} {k : Nat} (h : k < l.length) : idx? l (k : Int) = some l[k] := by
  unfold idx?
  rw [if_pos (by omega)]
  simp [h]
theorem wr_in {n : Int} (h : -9223372036854775808 ≤ n) (h' : n ≤ 9223372036854775807) : wr n = n := (wrap_ok h h').symm
theorem wr_nat {k : Nat} (h : k < 9223372036854775807) : wr ((k : Int) + 1) = ((k + 1 : Nat) : Int) := (wrap_succ h).symm

/-- Is a number from a to b? -/
def inB (n a b : Int) : Bool := decide (a ≤ n) && decide (n ≤ b)
theorem inB_iff {n a b : Int} : inB n a b = true ↔ a ≤ n ∧ n ≤ b := by simp [inB]
theorem app_nil {α : Type} {m : List α} {n : Nat} (h : m.length * n ≤ 140737488355328) (hn : 0 < n) : app? [] m n = some m := by
  unfold app?
  rw [if_pos (by simpa using ⟨h, hn⟩)]; rfl
theorem app_of {α : Type} {l m : List α} {n : Nat} (h : (l.length + m.length) * n ≤ 140737488355328) (hn : 0 < n) : app? l m n = some (l ++ m) := if_pos ⟨h, hn⟩
theorem nz_of {b : Int} (h : b ≠ 0) : nz? b = some () := if_pos h

/-- Neighbours in a list. -/
def pairs {α : Type} (l : List α) : List (α × α) := l.zip l.tail
theorem pairs_length {α : Type} (l : List α) : (pairs l).length = l.length - 1 := by simp [pairs]
theorem pairs_get {α : Type} (l : List α) (k : Nat) (h : k < (pairs l).length) : (pairs l)[k] = (l[k]'(by rw [pairs_length] at h; omega), l[k + 1]'(by rw [pairs_length] at h; omega)) := by
  simp [pairs]
end Go.Ev
/- The law's known(), over typed data. -/
namespace Go.Ev
def F_thalwegtop_knownRiver : Unit → Option Bool := fun _ => some true
end Go.Ev
/- What the functions do over typed data. -/
set_option linter.unusedVariables false
set_option linter.unusedSimpArgs false
namespace Go.Ev
set_option maxHeartbeats 8000000
set_option maxRecDepth 100000
structure TBounds where
  Low : Int
  High : Int
  deriving DecidableEq
def eTBounds (x : TBounds) : List V := [(V.v (.int .i64 (x.Low))), (V.v (.int .i64 (x.High)))]
structure TRateRow where
  Flow : Int
  Level : Int
  deriving DecidableEq
def eTRateRow (x : TRateRow) : List V := [(V.v (.int .i64 (x.Flow))), (V.v (.int .i64 (x.Level)))]
structure TReach where
  Length : Int
  Delay : Int
  Base : TBounds
  Curve : List TRateRow
  Weir : Int
  Bottom : TBounds
  Flood : Int
  deriving DecidableEq
def eTReach (x : TReach) : List V := [(V.v (.int .i64 (x.Length))), (V.v (.int .i64 (x.Delay))), (V.v (.int .i64 (x.Base.Low))), (V.v (.int .i64 (x.Base.High))), (V.sl (recs eTRateRow (x.Curve)) (x.Curve).length), (V.v (.int .i64 (x.Weir))), (V.v (.int .i64 (x.Bottom.Low))), (V.v (.int .i64 (x.Bottom.High))), (V.v (.int .i64 (x.Flood)))]
structure TShoal where
  Place : Int
  Bed : TBounds
  Sounded : Int
  Grow : TBounds
  deriving DecidableEq
def eTShoal (x : TShoal) : List V := [(V.v (.int .i64 (x.Place))), (V.v (.int .i64 (x.Bed.Low))), (V.v (.int .i64 (x.Bed.High))), (V.v (.int .i64 (x.Sounded))), (V.v (.int .i64 (x.Grow.Low))), (V.v (.int .i64 (x.Grow.High)))]
structure TRiver where
  Reaches : List TReach
  Shoals : List TShoal
  deriving DecidableEq
def eTRiver (x : TRiver) : List V := [(V.sl (recs eTReach (x.Reaches)) (x.Reaches).length), (V.sl (recs eTShoal (x.Shoals)) (x.Shoals).length)]
structure Triver_site where
  Reach : TReach
  number_ : Int
  place_ : Int
  shoals_ : List TShoal
  deriving DecidableEq
def eTriver_site (x : Triver_site) : List V := [(V.v (.int .i64 (x.Reach.Length))), (V.v (.int .i64 (x.Reach.Delay))), (V.v (.int .i64 (x.Reach.Base.Low))), (V.v (.int .i64 (x.Reach.Base.High))), (V.sl (recs eTRateRow (x.Reach.Curve)) (x.Reach.Curve).length), (V.v (.int .i64 (x.Reach.Weir))), (V.v (.int .i64 (x.Reach.Bottom.Low))), (V.v (.int .i64 (x.Reach.Bottom.High))), (V.v (.int .i64 (x.Reach.Flood))), (V.v (.int .i64 (x.number_))), (V.v (.int .i64 (x.place_))), (V.sl (recs eTShoal (x.shoals_)) (x.shoals_).length)]
structure Triver_stream where
  River : TRiver
  flows_ : List (List TBounds)
  deriving DecidableEq
def eTriver_stream (x : Triver_stream) : List V := [(V.sl (recs eTReach (x.River.Reaches)) (x.River.Reaches).length), (V.sl (recs eTShoal (x.River.Shoals)) (x.River.Shoals).length), (V.sl (recs (eS eTBounds) (x.flows_)) (x.flows_).length)]
structure TRun where
  From : Int
  To : Int
  Speed : TBounds
  Wait : TBounds
  deriving DecidableEq
def eTRun (x : TRun) : List V := [(V.v (.int .i64 (x.From))), (V.v (.int .i64 (x.To))), (V.v (.int .i64 (x.Speed.Low))), (V.v (.int .i64 (x.Speed.High))), (V.v (.int .i64 (x.Wait.Low))), (V.v (.int .i64 (x.Wait.High)))]
structure TVoyage where
  Start : TBounds
  Runs : List TRun
  Length : Int
  Width : Int
  deriving DecidableEq
def eTVoyage (x : TVoyage) : List V := [(V.v (.int .i64 (x.Start.Low))), (V.v (.int .i64 (x.Start.High))), (V.sl (recs eTRun (x.Runs)) (x.Runs).length), (V.v (.int .i64 (x.Length))), (V.v (.int .i64 (x.Width)))]
structure TPass where
  Place : Int
  Hours : TBounds
  deriving DecidableEq
def eTPass (x : TPass) : List V := [(V.v (.int .i64 (x.Place))), (V.v (.int .i64 (x.Hours.Low))), (V.v (.int .i64 (x.Hours.High)))]
structure Tthalwegtop_HaulTrip where
  Voyage : TVoyage
  Places : List Int
  By : List Int
  deriving DecidableEq
def eTthalwegtop_HaulTrip (x : Tthalwegtop_HaulTrip) : List V := [(V.v (.int .i64 (x.Voyage.Start.Low))), (V.v (.int .i64 (x.Voyage.Start.High))), (V.sl (recs eTRun (x.Voyage.Runs)) (x.Voyage.Runs).length), (V.v (.int .i64 (x.Voyage.Length))), (V.v (.int .i64 (x.Voyage.Width))), (V.sl (recs (eI .u16) (x.Places)) (x.Places).length), (V.sl (recs (eI .u8) (x.By)) (x.By).length)]

noncomputable def L_thalwegtop_haulRiver_1 (a0 : TRiver) (l1 : List TShoal) : LoopD (Int × (List TReach)) (((List TReach))) (Unit) where
  step := fun s => match s with
    | (s2, s3) =>
      bif (decide (s2 < ((a0.Reaches).length : Int))) then
        (idx? (a0.Reaches) (s2)).bind fun x7 =>
        (app? (([] : List TRateRow)) (x7.Curve) 16).bind fun l8 =>
        (app? (s3) (([(⟨x7.Length, x7.Delay, x7.Base, l8, x7.Weir, x7.Bottom, x7.Flood⟩ : TReach)] : List TReach)) 88).bind fun l9 =>
        some (.inl ((wr (s2 + 1)), l9))
      else
        some (.inr s3)
  at_ := fun s gh => match s, gh with
    | (s2, s3), () => ⟨[(1, (V.box 0 0)), (2, (V.box 1 0)), (3, (V.box 7 0)), (4, (V.v (.int .i64 (s2))))], [(0, Bx.var [(V.sl (recs eTReach (a0.Reaches)) (a0.Reaches).length), (V.sl (recs eTShoal (a0.Shoals)) (a0.Shoals).length)] false), (1, Bx.var [(V.v (.slice none 0 0)), (V.v (.slice none 0 0))] false), (7, Bx.var [(V.osl 8 (s3).length), (V.sl (recs eTShoal (l1)) (l1).length)] false), (8, Bx.row 45 9 (recs eTReach (s3)) 0)], 9⟩
noncomputable def F_thalwegtop_haulRiver : (TRiver) → Option (TRiver) := fun x => match x with
  | (a0) =>
    (app? (([] : List TShoal)) (a0.Shoals) 48).bind fun l1 =>
    (loopC (L_thalwegtop_haulRiver_1 a0 l1).step (0, ([] : List TReach))).bind fun e => match e with
    | s10 =>
      some (⟨s10, l1⟩ : TRiver)

noncomputable def L_thalwegtop_haulSides_1 (a0 : List (List TBounds)) : LoopD (Int × (List (List TBounds))) (((List (List TBounds)))) (Unit) where
  step := fun s => match s with
    | (s1, s2) =>
      bif (decide (s1 < ((a0).length : Int))) then
        (idx? (a0) (s1)).bind fun x6 =>
        (app? (([] : List TBounds)) (x6) 16).bind fun l7 =>
        (app? (s2) (([l7] : List (List TBounds))) 24).bind fun l8 =>
        some (.inl ((wr (s1 + 1)), l8))
      else
        some (.inr s2)
  at_ := fun s gh => match s, gh with
    | (s1, s2), () => ⟨[(0, (V.sl (recs (eS eTBounds) (a0)) (a0).length)), (2, (V.v (.slice none 0 0))), (3, (V.osl 1 (s2).length)), (4, (V.v (.int .i64 (s1))))], [(1, Bx.row 52 1 (recs (eS eTBounds) (s2)) 0)], 2⟩
noncomputable def F_thalwegtop_haulSides : ((List (List TBounds))) → Option (List (List TBounds)) := fun x => match x with
  | (a0) =>
    (loopC (L_thalwegtop_haulSides_1 a0).step (0, ([] : List (List TBounds)))).bind fun e => match e with
    | s9 =>
      some s9

noncomputable def L_numbers_Sum_1 (a0 : List TBounds) : LoopD (Int × Int × Int) ((Int × Int)) (Unit) where
  step := fun s => match s with
    | (s1, s2, s3) =>
      bif (decide (s1 < ((a0).length : Int))) then
        (idx? (a0) (s1)).bind fun x5 =>
        some (.inl ((wr (s1 + 1)), (wr (s2 + x5.Low)), (wr (s3 + x5.High))))
      else
        some (.inr (s2, s3))
  at_ := fun s gh => match s, gh with
    | (s1, s2, s3), () => ⟨[(2, (V.box 0 0)), (3, (V.box 2 0)), (7, (V.sl (recs eTBounds (a0)) (a0).length)), (8, (V.v (.int .i64 (((a0).length : Int))))), (9, (V.v (.int .i64 (s1))))], [(0, Bx.var [(V.v (.int .i64 (0))), (V.v (.int .i64 (0)))] false), (2, Bx.var [(V.v (.int .i64 (s2))), (V.v (.int .i64 (s3)))] false)], 3⟩
noncomputable def F_numbers_Sum : ((List TBounds)) → Option (TBounds) := fun x => match x with
  | (a0) =>
    (loopC (L_numbers_Sum_1 a0).step (0, 0, 0)).bind fun e => match e with
    | (s6, s7) =>
      some (⟨s6, s7⟩ : TBounds)

noncomputable def L_numbers_Every_int_1 (a1 : (Int → Option Bool)) (a0 : List Int) (g : FuncId) (caps : List V) : LoopD (Int) (Unit ⊕ Bool) (Unit) where
  step := fun s => match s with
    | s1 =>
      bif (decide (s1 < ((a0).length : Int))) then
        (idx? (a0) (s1)).bind fun x4 =>
        (a1 (x4)).bind fun y5 =>
        bif (!y5) then
          some (.inr (.inr false))
        else
          some (.inl (wr (s1 + 1)))
      else
        some (.inr (.inl ()))
  at_ := fun s gh => match s, gh with
    | s1, () => ⟨[(1, (V.fn g caps)), (4, (V.v (.bool (false)))), (7, (V.sl (recs (eI .i64) (a0)) (a0).length)), (8, (V.v (.int .i64 (((a0).length : Int))))), (9, (V.v (.int .i64 (s1))))], [], 0⟩
noncomputable def F_numbers_Every_int : ((List Int) × ((Int → Option Bool)) × FuncId × (List V)) → Option (Bool) := fun x => match x with
  | (a0, a1, g, caps) =>
    (loopC (L_numbers_Every_int_1 a1 a0 g caps).step 0).bind fun e => match e with
    | (.inl ()) =>
      some true
    | (.inr r6) =>
      some r6

noncomputable def F_numbers_Within_1 : (Int × Int × Int) → Option (Bool) := fun x => match x with
  | (a0, c0, c1) =>
    bif (decide (c0 ≤ a0)) then
      some (decide (a0 ≤ c1))
    else
      some false

noncomputable def F_numbers_Within : (Int × Int × (List Int)) → Option (Bool) := fun x => match x with
  | (a0, a1, a2) =>
    (F_numbers_Every_int (a2, (fun q => F_numbers_Within_1 (q, a0, a1)), 30, [(V.fptr [(V.v (.int .i64 (a0)))]), (V.fptr [(V.v (.int .i64 (a1)))])])).bind fun y1 =>
    some y1

noncomputable def F_numbers_Valid : (TBounds × Int × Int) → Option (Bool) := fun x => match x with
  | (a0, a1, a2) =>
    bif (decide (a0.Low ≤ a0.High)) then
      (F_numbers_Within (a1, a2, ([a0.Low, a0.High] : List Int))).bind fun y1 =>
      some y1
    else
      some false

noncomputable def F_river_validCurve_1 : (TRateRow × TRateRow) → Option (Bool) := fun x => match x with
  | (a0, a1) =>
    bif (decide (a0.Flow < a1.Flow)) then
      some (decide (a0.Level ≤ a1.Level))
    else
      some false

noncomputable def L_numbers_Every_RateRow_1 (a1 : (TRateRow → Option Bool)) (a0 : List TRateRow) (g : FuncId) (caps : List V) : LoopD (Int) (Unit ⊕ Bool) (Unit) where
  step := fun s => match s with
    | s1 =>
      bif (decide (s1 < ((a0).length : Int))) then
        (idx? (a0) (s1)).bind fun x4 =>
        (a1 (x4)).bind fun y5 =>
        bif (!y5) then
          some (.inr (.inr false))
        else
          some (.inl (wr (s1 + 1)))
      else
        some (.inr (.inl ()))
  at_ := fun s gh => match s, gh with
    | s1, () => ⟨[(1, (V.fn g caps)), (4, (V.v (.bool (false)))), (7, (V.sl (recs eTRateRow (a0)) (a0).length)), (8, (V.v (.int .i64 (((a0).length : Int))))), (9, (V.v (.int .i64 (s1))))], [], 0⟩
noncomputable def F_numbers_Every_RateRow : ((List TRateRow) × ((TRateRow → Option Bool)) × FuncId × (List V)) → Option (Bool) := fun x => match x with
  | (a0, a1, g, caps) =>
    (loopC (L_numbers_Every_RateRow_1 a1 a0 g caps).step 0).bind fun e => match e with
    | (.inl ()) =>
      some true
    | (.inr r6) =>
      some r6

noncomputable def F_river_validCurve_2 : (TRateRow) → Option (Bool) := fun x => match x with
  | (a0) =>
    (F_numbers_Within (0, 10000000000, ([a0.Flow] : List Int))).bind fun y1 =>
    bif y1 then
      (F_numbers_Within (0, 10000, ([a0.Level] : List Int))).bind fun y2 =>
      some y2
    else
      some false

noncomputable def L_river_validCurve_1 (a0 : List TRateRow) : LoopD (Int) (Unit ⊕ Bool) (Unit) where
  step := fun s => match s with
    | s2 =>
      bif (decide (s2 < ((a0).length : Int))) then
        (idx? (a0) ((wr (s2 - 1)))).bind fun x6 =>
        (idx? (a0) (s2)).bind fun x7 =>
        (F_river_validCurve_1 (x6, x7)).bind fun y8 =>
        bif (!y8) then
          some (.inr (.inr false))
        else
          some (.inl (wr (s2 + 1)))
      else
        some (.inr (.inl ()))
  at_ := fun s gh => match s, gh with
    | s2, () => ⟨[(0, (V.sl (recs eTRateRow (a0)) (a0).length)), (2, (V.v (.bool (false)))), (3, (V.fn 59 [])), (4, (V.v (.int .i64 (s2))))], [], 0⟩
noncomputable def F_river_validCurve : ((List TRateRow)) → Option (Bool) := fun x => match x with
  | (a0) =>
    (F_numbers_Within (2, 30, ([((a0).length : Int)] : List Int))).bind fun y1 =>
    bif (!y1) then
      some false
    else
      (loopC (L_river_validCurve_1 a0).step 1).bind fun e => match e with
      | (.inl ()) =>
        (F_numbers_Every_RateRow (a0, (fun q => F_river_validCurve_2 (q)), 61, [])).bind fun y9 =>
        some y9
      | (.inr r10) =>
        some r10

noncomputable def F_river_validReach : (TReach) → Option (Bool) := fun x => match x with
  | (a0) =>
    (F_numbers_Within (1, 5000, ([a0.Length] : List Int))).bind fun y1 =>
    bif y1 then
      (F_numbers_Within (0, 200, ([a0.Delay] : List Int))).bind fun y2 =>
      bif y2 then
        (F_numbers_Within (0, 10000, ([a0.Weir, a0.Flood] : List Int))).bind fun y3 =>
        bif y3 then
          (F_numbers_Valid (a0.Base, 0, 10000000000)).bind fun y4 =>
          bif y4 then
            (F_numbers_Valid (a0.Bottom, 0, 10000)).bind fun y5 =>
            bif y5 then
              (F_river_validCurve (a0.Curve)).bind fun y6 =>
              some y6
            else
              some false
          else
            some false
        else
          some false
      else
        some false
    else
      some false

noncomputable def L_numbers_Every_Reach_1 (a1 : (TReach → Option Bool)) (a0 : List TReach) (g : FuncId) (caps : List V) : LoopD (Int) (Unit ⊕ Bool) (Unit) where
  step := fun s => match s with
    | s1 =>
      bif (decide (s1 < ((a0).length : Int))) then
        (idx? (a0) (s1)).bind fun x4 =>
        (a1 (x4)).bind fun y5 =>
        bif (!y5) then
          some (.inr (.inr false))
        else
          some (.inl (wr (s1 + 1)))
      else
        some (.inr (.inl ()))
  at_ := fun s gh => match s, gh with
    | s1, () => ⟨[(1, (V.fn g caps)), (4, (V.v (.bool (false)))), (7, (V.sl (recs eTReach (a0)) (a0).length)), (8, (V.v (.int .i64 (((a0).length : Int))))), (9, (V.v (.int .i64 (s1))))], [], 0⟩
noncomputable def F_numbers_Every_Reach : ((List TReach) × ((TReach → Option Bool)) × FuncId × (List V)) → Option (Bool) := fun x => match x with
  | (a0, a1, g, caps) =>
    (loopC (L_numbers_Every_Reach_1 a1 a0 g caps).step 0).bind fun e => match e with
    | (.inl ()) =>
      some true
    | (.inr r6) =>
      some r6

noncomputable def L_numbers_Every_Shoal_1 (a1 : (TShoal → Option Bool)) (a0 : List TShoal) (g : FuncId) (caps : List V) : LoopD (Int) (Unit ⊕ Bool) (Unit) where
  step := fun s => match s with
    | s1 =>
      bif (decide (s1 < ((a0).length : Int))) then
        (idx? (a0) (s1)).bind fun x4 =>
        (a1 (x4)).bind fun y5 =>
        bif (!y5) then
          some (.inr (.inr false))
        else
          some (.inl (wr (s1 + 1)))
      else
        some (.inr (.inl ()))
  at_ := fun s gh => match s, gh with
    | s1, () => ⟨[(1, (V.fn g caps)), (4, (V.v (.bool (false)))), (7, (V.sl (recs eTShoal (a0)) (a0).length)), (8, (V.v (.int .i64 (((a0).length : Int))))), (9, (V.v (.int .i64 (s1))))], [], 0⟩
noncomputable def F_numbers_Every_Shoal : ((List TShoal) × ((TShoal → Option Bool)) × FuncId × (List V)) → Option (Bool) := fun x => match x with
  | (a0, a1, g, caps) =>
    (loopC (L_numbers_Every_Shoal_1 a1 a0 g caps).step 0).bind fun e => match e with
    | (.inl ()) =>
      some true
    | (.inr r6) =>
      some r6

noncomputable def L_river_find_1 (a1 : Int) (a0 : TRiver) : LoopD (Int × Int) (Unit ⊕ (Triver_site × Bool)) (Unit) where
  step := fun s => match s with
    | (s1, s2) =>
      bif (decide (s2 < ((a0.Reaches).length : Int))) then
        (idx? (a0.Reaches) (s2)).bind fun x4 =>
        bif (decide (0 ≤ a1)) then
          bif (decide (a1 < (wr (s1 + x4.Length)))) then
            some (.inr (.inr ((⟨x4, s2, a1, a0.Shoals⟩ : Triver_site), true)))
          else
            some (.inl ((wr (s1 + x4.Length)), (wr (s2 + 1))))
        else
          some (.inl ((wr (s1 + x4.Length)), (wr (s2 + 1))))
      else
        some (.inr (.inl ()))
  at_ := fun s gh => match s, gh with
    | (s1, s2), () => ⟨[(1, (V.v (.int .i64 (a1)))), (2, (V.box 0 0)), (4, (V.box 1 0)), (5, (V.v (.bool (false)))), (6, (V.v (.int .i64 (s1)))), (10, (V.sl (recs eTReach (a0.Reaches)) (a0.Reaches).length)), (11, (V.v (.int .i64 (((a0.Reaches).length : Int))))), (12, (V.v (.int .i64 (s2))))], [(0, Bx.var [(V.sl (recs eTReach (a0.Reaches)) (a0.Reaches).length), (V.sl (recs eTShoal (a0.Shoals)) (a0.Shoals).length)] false), (1, Bx.var [(V.v (.int .i64 (0))), (V.v (.int .i64 (0))), (V.v (.int .i64 (0))), (V.v (.int .i64 (0))), (V.v (.slice none 0 0)), (V.v (.int .i64 (0))), (V.v (.int .i64 (0))), (V.v (.int .i64 (0))), (V.v (.int .i64 (0))), (V.v (.int .i64 (0))), (V.v (.int .i64 (0))), (V.v (.slice none 0 0))] false)], 2⟩
noncomputable def F_river_find : (TRiver × Int) → Option (Triver_site × Bool) := fun x => match x with
  | (a0, a1) =>
    (loopC (L_river_find_1 a1 a0).step (0, 0)).bind fun e => match e with
    | (.inl ()) =>
      some ((⟨(⟨0, 0, (⟨0, 0⟩ : TBounds), ([] : List TRateRow), 0, (⟨0, 0⟩ : TBounds), 0⟩ : TReach), 0, 0, ([] : List TShoal)⟩ : Triver_site), false)
    | (.inr r5) =>
      some r5

noncomputable def F_river_validShoal : (TRiver × TShoal) → Option (Bool) := fun x => match x with
  | (a0, a1) =>
    (F_river_find (a0, a1.Place)).bind fun y1 =>
    bif y1.2 then
      (F_numbers_Within ((-400), 400, ([a1.Sounded] : List Int))).bind fun y2 =>
      bif y2 then
        (F_numbers_Valid (a1.Bed, 0, 10000)).bind fun y3 =>
        bif y3 then
          (F_numbers_Valid (a1.Grow, (-500), 500)).bind fun y4 =>
          some y4
        else
          some false
      else
        some false
    else
      some false

noncomputable def F_river_Check_1 : (TShoal × TRiver) → Option (Bool) := fun x => match x with
  | (a0, c0) =>
    (F_river_validShoal (c0, a0)).bind fun y1 =>
    some y1

noncomputable def F_river_Check : (TRiver) → Option (Int) := fun x => match x with
  | (a0) =>
    (F_numbers_Within (1, 20, ([((a0.Reaches).length : Int)] : List Int))).bind fun y1 =>
    bif (!y1) then
      some 2
    else
      (F_numbers_Every_Reach (a0.Reaches, (fun q => F_river_validReach (q)), 32, [])).bind fun y2 =>
      bif (!y2) then
        some 2
      else
        bif (decide (((a0.Shoals).length : Int) > 40)) then
          some 2
        else
          (F_numbers_Every_Shoal (a0.Shoals, (fun q => F_river_Check_1 (q, a0)), 51, [(V.fptr [(V.sl (recs eTReach (a0.Reaches)) (a0.Reaches).length), (V.sl (recs eTShoal (a0.Shoals)) (a0.Shoals).length)])])).bind fun y3 =>
          bif (!y3) then
            some 2
          else
            some 0

noncomputable def L_numbers_Every_L_Bounds_1 (a1 : ((List TBounds) → Option Bool)) (a0 : List (List TBounds)) (g : FuncId) (caps : List V) : LoopD (Int) (Unit ⊕ Bool) (Unit) where
  step := fun s => match s with
    | s1 =>
      bif (decide (s1 < ((a0).length : Int))) then
        (idx? (a0) (s1)).bind fun x4 =>
        (a1 (x4)).bind fun y5 =>
        bif (!y5) then
          some (.inr (.inr false))
        else
          some (.inl (wr (s1 + 1)))
      else
        some (.inr (.inl ()))
  at_ := fun s gh => match s, gh with
    | s1, () => ⟨[(1, (V.fn g caps)), (4, (V.v (.bool (false)))), (7, (V.sl (recs (eS eTBounds) (a0)) (a0).length)), (8, (V.v (.int .i64 (((a0).length : Int))))), (9, (V.v (.int .i64 (s1))))], [], 0⟩
noncomputable def F_numbers_Every_L_Bounds : ((List (List TBounds)) × (((List TBounds) → Option Bool)) × FuncId × (List V)) → Option (Bool) := fun x => match x with
  | (a0, a1, g, caps) =>
    (loopC (L_numbers_Every_L_Bounds_1 a1 a0 g caps).step 0).bind fun e => match e with
    | (.inl ()) =>
      some true
    | (.inr r6) =>
      some r6

noncomputable def F_river_checkForecast_1 : ((List TBounds) × Int) → Option (Bool) := fun x => match x with
  | (a0, c0) =>
    some (((a0).length : Int) == c0)

noncomputable def F_river_checkForecast_2 : (TBounds) → Option (Bool) := fun x => match x with
  | (a0) =>
    (F_numbers_Valid (a0, 0, 10000000000)).bind fun y1 =>
    some y1

noncomputable def L_numbers_Every_Bounds_1 (a1 : (TBounds → Option Bool)) (a0 : List TBounds) (g : FuncId) (caps : List V) : LoopD (Int) (Unit ⊕ Bool) (Unit) where
  step := fun s => match s with
    | s1 =>
      bif (decide (s1 < ((a0).length : Int))) then
        (idx? (a0) (s1)).bind fun x4 =>
        (a1 (x4)).bind fun y5 =>
        bif (!y5) then
          some (.inr (.inr false))
        else
          some (.inl (wr (s1 + 1)))
      else
        some (.inr (.inl ()))
  at_ := fun s gh => match s, gh with
    | s1, () => ⟨[(1, (V.fn g caps)), (4, (V.v (.bool (false)))), (7, (V.sl (recs eTBounds (a0)) (a0).length)), (8, (V.v (.int .i64 (((a0).length : Int))))), (9, (V.v (.int .i64 (s1))))], [], 0⟩
noncomputable def F_numbers_Every_Bounds : ((List TBounds) × ((TBounds → Option Bool)) × FuncId × (List V)) → Option (Bool) := fun x => match x with
  | (a0, a1, g, caps) =>
    (loopC (L_numbers_Every_Bounds_1 a1 a0 g caps).step 0).bind fun e => match e with
    | (.inl ()) =>
      some true
    | (.inr r6) =>
      some r6

noncomputable def F_river_checkForecast_3 : ((List TBounds) × ((TBounds → Option Bool)) × FuncId × (List V)) → Option (Bool) := fun x => match x with
  | (a0, c0, g, caps) =>
    (F_numbers_Every_Bounds (a0, c0, g, caps)).bind fun y1 =>
    some y1

noncomputable def F_river_checkForecast : (TRiver × (List (List TBounds))) → Option (Int) := fun x => match x with
  | (a0, a1) =>
    bif (((a1).length : Int) != ((a0.Reaches).length : Int)) then
      some 4
    else
      (idx? (a1) (0)).bind fun x1 =>
      bif (((x1).length : Int) == 0) then
        some 4
      else
        (F_numbers_Every_L_Bounds (a1, (fun q => F_river_checkForecast_1 (q, ((x1).length : Int))), 54, [(V.fptr [(V.v (.int .i64 (((x1).length : Int))))])])).bind fun y2 =>
        bif (!y2) then
          some 4
        else
          bif (decide (((x1).length : Int) > 400)) then
            some 5
          else
            (F_numbers_Every_L_Bounds (a1, (fun q => F_river_checkForecast_3 (q, (fun q => F_river_checkForecast_2 (q)), 55, [])), 56, [(V.fptr [(V.fn 55 [])])])).bind fun y3 =>
            bif (!y3) then
              some 2
            else
              some 0

noncomputable def F_river_stream_inflow : (Triver_stream × Int × Int) → Option (TBounds) := fun x => match x with
  | (a0, a1, a2) =>
    bif (a1 == 0) then
      some (⟨0, 0⟩ : TBounds)
    else
      (idx? (a0.River.Reaches) ((wr (a1 - 1)))).bind fun x1 =>
      bif (decide (a2 < x1.Delay)) then
        some x1.Base
      else
        (idx? (a0.flows_) ((wr (a1 - 1)))).bind fun x2 =>
        (idx? (x2) ((wr (a2 - x1.Delay)))).bind fun x3 =>
        some x3

noncomputable def L_river_run_1 (a1 : List (List TBounds)) (s3 : Int) (x23 : List TBounds) (a0 : TRiver) (s4 : List (List TBounds)) : LoopD (Int × (List TBounds)) (((List TBounds))) (Nat) where
  step := fun s => match s with
    | (s25, s26) =>
      bif (decide (s25 < ((x23).length : Int))) then
        (idx? (x23) (s25)).bind fun x33 =>
        (F_river_stream_inflow ((⟨a0, s4⟩ : Triver_stream), s3, s25)).bind fun y34 =>
        (F_numbers_Sum (([x33, y34] : List TBounds))).bind fun y35 =>
        (idx? (s26) (s25)).bind fun x36 =>
        (set? (s26) (s25) (y35)).bind fun l38 =>
        some (.inl ((wr (s25 + 1)), l38))
      else
        some (.inr s26)
  at_ := fun s gh => match s, gh with
    | (s25, s26), p17 => ⟨[(4, (V.box 1 0)), (5, (V.v (.int .i64 (0)))), (8, (V.box 16 0)), (9, (V.v (.int .i64 (s3)))), (10, (V.sl (recs eTBounds (x23)) (x23).length)), (11, (V.osl 26 (s26).length)), (28, (V.sl (recs (eS eTBounds) (a1)) (a1).length)), (29, (V.v (.int .i64 (((a1).length : Int))))), (30, (V.v (.int .i64 (s3)))), (39, (V.v (.int .i64 (((x23).length : Int))))), (40, (V.v (.int .i64 (s25))))], [(1, Bx.var [(V.v (.slice none 0 0)), (V.v (.slice none 0 0)), (V.v (.slice none 0 0))] false), (16, Bx.var [(V.sl (recs eTReach (a0.Reaches)) (a0.Reaches).length), (V.sl (recs eTShoal (a0.Shoals)) (a0.Shoals).length), (V.osl 17 (s4).length)] false), (17, Bx.row 52 1 (recs (eS eTBounds) (s4)) p17), (26, Bx.row 28 2 (recs eTBounds (s26)) 0)], 27⟩
noncomputable def L_river_run_2 (a1 : List (List TBounds)) (a0 : TRiver) : LoopD (Int × (List (List TBounds))) (((List (List TBounds)))) (Nat) where
  step := fun s => match s with
    | (s3, s4) =>
      bif (decide (s3 < ((a1).length : Int))) then
        (idx? (a1) (s3)).bind fun x23 =>
        (mk? ((⟨0, 0⟩ : TBounds) : TBounds) (((x23).length : Int)) 16).bind fun l24 =>
        (loopC (L_river_run_1 a1 s3 x23 a0 s4).step (0, l24)).bind fun e => match e with
        | s39 =>
          (app? (s4) (([s39] : List (List TBounds))) 24).bind fun l40 =>
          some (.inl ((wr (s3 + 1)), l40))
      else
        some (.inr s4)
  at_ := fun s gh => match s, gh with
    | (s3, s4), p17 => ⟨[(4, (V.box 1 0)), (5, (V.v (.int .i64 (0)))), (8, (V.box 16 0)), (28, (V.sl (recs (eS eTBounds) (a1)) (a1).length)), (29, (V.v (.int .i64 (((a1).length : Int))))), (30, (V.v (.int .i64 (s3))))], [(1, Bx.var [(V.v (.slice none 0 0)), (V.v (.slice none 0 0)), (V.v (.slice none 0 0))] false), (16, Bx.var [(V.sl (recs eTReach (a0.Reaches)) (a0.Reaches).length), (V.sl (recs eTShoal (a0.Shoals)) (a0.Shoals).length), (V.osl 17 (s4).length)] false), (17, Bx.row 52 1 (recs (eS eTBounds) (s4)) p17)], 18⟩
noncomputable def F_river_run : (TRiver × (List (List TBounds))) → Option (Triver_stream × Int) := fun x => match x with
  | (a0, a1) =>
    (F_river_Check (a0)).bind fun y1 =>
    bif (y1 != 0) then
      some ((⟨(⟨([] : List TReach), ([] : List TShoal)⟩ : TRiver), ([] : List (List TBounds))⟩ : Triver_stream), y1)
    else
      (F_river_checkForecast (a0, a1)).bind fun y2 =>
      bif (y2 != 0) then
        some ((⟨(⟨([] : List TReach), ([] : List TShoal)⟩ : TRiver), ([] : List (List TBounds))⟩ : Triver_stream), y2)
      else
        (loopC (L_river_run_2 a1 a0).step (0, ([] : List (List TBounds)))).bind fun e => match e with
        | s41 =>
          some ((⟨a0, s41⟩ : Triver_stream), 0)

noncomputable def F_river_Flows : (TRiver × (List (List TBounds))) → Option ((List (List TBounds)) × Int) := fun x => match x with
  | (a0, a1) =>
    (F_river_run (a0, a1)).bind fun y1 =>
    some (y1.1.flows_, y1.2)

noncomputable def L_thalwegtop_haulGood_1 (a1 : List (List TBounds)) (a0 : TRiver) : LoopD (Int) (Unit ⊕ Bool) (Unit) where
  step := fun s => match s with
    | s3 =>
      bif (decide (s3 < ((a0.Reaches).length : Int))) then
        (idx? (a0.Reaches) (s3)).bind fun x7 =>
        bif (decide (((x7.Curve).length : Int) > 40)) then
          some (.inr (.inr false))
        else
          (idx? (a1) (s3)).bind fun x8 =>
          (idx? (a1) (0)).bind fun x9 =>
          bif (((x8).length : Int) != ((x9).length : Int)) then
            some (.inr (.inr false))
          else
            some (.inl (wr (s3 + 1)))
      else
        some (.inr (.inl ()))
  at_ := fun s gh => match s, gh with
    | s3, () => ⟨[(1, (V.sl (recs (eS eTBounds) (a1)) (a1).length)), (2, (V.box 0 0)), (4, (V.v (.bool (false)))), (5, (V.v (.int .i64 (s3))))], [(0, Bx.var [(V.sl (recs eTReach (a0.Reaches)) (a0.Reaches).length), (V.sl (recs eTShoal (a0.Shoals)) (a0.Shoals).length)] false)], 1⟩
noncomputable def F_thalwegtop_haulGood : (TRiver × (List (List TBounds))) → Option (Bool) := fun x => match x with
  | (a0, a1) =>
    bif (decide (((a0.Reaches).length : Int) < 1)) then
      some false
    else
      bif (decide (((a0.Reaches).length : Int) > 12)) then
        some false
      else
        bif (decide (((a0.Shoals).length : Int) > 20)) then
          some false
        else
          bif (((a1).length : Int) != ((a0.Reaches).length : Int)) then
            some false
          else
            (idx? (a1) (0)).bind fun x1 =>
            bif (decide (((x1).length : Int) < 1)) then
              some false
            else
              (idx? (a1) (0)).bind fun x2 =>
              bif (decide (((x2).length : Int) > 100)) then
                some false
              else
                (loopC (L_thalwegtop_haulGood_1 a1 a0).step 0).bind fun e => match e with
                | (.inl ()) =>
                  (F_thalwegtop_haulRiver (a0)).bind fun y10 =>
                  (F_thalwegtop_haulSides (a1)).bind fun y11 =>
                  (F_river_Flows (y10, y11)).bind fun y12 =>
                  some (y12.2 == 0)
                | (.inr r13) =>
                  some r13

noncomputable def L_numbers_Every_Run_1 (a1 : (TRun → Option Bool)) (a0 : List TRun) (g : FuncId) (caps : List V) : LoopD (Int) (Unit ⊕ Bool) (Unit) where
  step := fun s => match s with
    | s1 =>
      bif (decide (s1 < ((a0).length : Int))) then
        (idx? (a0) (s1)).bind fun x4 =>
        (a1 (x4)).bind fun y5 =>
        bif (!y5) then
          some (.inr (.inr false))
        else
          some (.inl (wr (s1 + 1)))
      else
        some (.inr (.inl ()))
  at_ := fun s gh => match s, gh with
    | s1, () => ⟨[(1, (V.fn g caps)), (4, (V.v (.bool (false)))), (7, (V.sl (recs eTRun (a0)) (a0).length)), (8, (V.v (.int .i64 (((a0).length : Int))))), (9, (V.v (.int .i64 (s1))))], [], 0⟩
noncomputable def F_numbers_Every_Run : ((List TRun) × ((TRun → Option Bool)) × FuncId × (List V)) → Option (Bool) := fun x => match x with
  | (a0, a1, g, caps) =>
    (loopC (L_numbers_Every_Run_1 a1 a0 g caps).step 0).bind fun e => match e with
    | (.inl ()) =>
      some true
    | (.inr r6) =>
      some r6

noncomputable def F_tow_validRun : (TRun) → Option (Bool) := fun x => match x with
  | (a0) =>
    (F_numbers_Within (0, 100000, ([a0.From, a0.To] : List Int))).bind fun y1 =>
    bif y1 then
      bif (a0.From != a0.To) then
        (F_numbers_Valid (a0.Speed, 1, 400)).bind fun y2 =>
        bif y2 then
          (F_numbers_Valid (a0.Wait, 0, 5000)).bind fun y3 =>
          some y3
        else
          some false
      else
        some false
    else
      some false

noncomputable def F_tow_down : (TRun) → Option (Bool) := fun x => match x with
  | (a0) =>
    some (decide (a0.From < a0.To))

noncomputable def L_tow_joined_1 (a0 : List TRun) : LoopD (Int) (Unit ⊕ Bool) (Unit) where
  step := fun s => match s with
    | s1 =>
      bif (decide (s1 < ((a0).length : Int))) then
        (idx? (a0) (s1)).bind fun x8 =>
        (idx? (a0) ((wr (s1 - 1)))).bind fun x9 =>
        bif (x8.From != x9.To) then
          some (.inr (.inr false))
        else
          (idx? (a0) (s1)).bind fun x10 =>
          (F_tow_down (x10)).bind fun y11 =>
          (idx? (a0) ((wr (s1 - 1)))).bind fun x12 =>
          (F_tow_down (x12)).bind fun y13 =>
          bif (!(y11 == y13)) then
            some (.inr (.inr false))
          else
            some (.inl (wr (s1 + 1)))
      else
        some (.inr (.inl ()))
  at_ := fun s gh => match s, gh with
    | s1, () => ⟨[(0, (V.sl (recs eTRun (a0)) (a0).length)), (2, (V.v (.bool (false)))), (3, (V.v (.int .i64 (s1))))], [], 0⟩
noncomputable def F_tow_joined : ((List TRun)) → Option (Bool) := fun x => match x with
  | (a0) =>
    (loopC (L_tow_joined_1 a0).step 1).bind fun e => match e with
    | (.inl ()) =>
      some true
    | (.inr r14) =>
      some r14

noncomputable def F_tow_Check : (TVoyage) → Option (Int) := fun x => match x with
  | (a0) =>
    (F_numbers_Valid (a0.Start, 0, 1000000)).bind fun y1 =>
    bif (!y1) then
      some 2
    else
      (F_numbers_Within (1, 20, ([((a0.Runs).length : Int)] : List Int))).bind fun y2 =>
      bif (!y2) then
        some 2
      else
        (F_numbers_Within (1, 3000, ([a0.Length] : List Int))).bind fun y3 =>
        bif (!y3) then
          some 2
        else
          (F_numbers_Within (1, 200, ([a0.Width] : List Int))).bind fun y4 =>
          bif (!y4) then
            some 2
          else
            (F_numbers_Every_Run (a0.Runs, (fun q => F_tow_validRun (q)), 19, [])).bind fun y5 =>
            bif (!y5) then
              some 2
            else
              (F_tow_joined (a0.Runs)).bind fun y6 =>
              bif (!y6) then
                some 2
              else
                some 0

noncomputable def F_thalwegtop_haulVoyage : (TVoyage) → Option (TVoyage) := fun x => match x with
  | (a0) =>
    (app? (([] : List TRun)) (a0.Runs) 48).bind fun l1 =>
    some (⟨a0.Start, l1, a0.Length, a0.Width⟩ : TVoyage)

noncomputable def F_tow_ends : (TVoyage) → Option (Int × Int) := fun x => match x with
  | (a0) =>
    (idx? (a0.Runs) (0)).bind fun x1 =>
    (idx? (a0.Runs) ((wr (((a0.Runs).length : Int) - 1)))).bind fun x2 =>
    some (x1.From, x2.To)

noncomputable def F_tow_covers : (Int × Int × (List Int)) → Option (Bool) := fun x => match x with
  | (a0, a1, a2) =>
    (F_numbers_Within ((minmax false a0 a1), (minmax true a0 a1), a2)).bind fun y1 =>
    some y1

noncomputable def F_tow_onWay : (TVoyage × (List Int)) → Option (Bool) := fun x => match x with
  | (a0, a1) =>
    (F_tow_ends (a0)).bind fun y1 =>
    (F_tow_covers (y1.1, y1.2, a1)).bind fun y2 =>
    some y2

noncomputable def F_numbers_Down : (Int × Int) → Option (Int) := fun x => match x with
  | (a0, a1) =>
    (nz? (a1)).bind fun _ =>
    bif (decide ((Int.tmod a0 a1) < 0)) then
      (nz? (a1)).bind fun _ =>
      some (wr ((wr (Int.tdiv a0 a1)) - 1))
    else
      (nz? (a1)).bind fun _ =>
      some (wr (Int.tdiv a0 a1))

noncomputable def F_numbers_Up : (Int × Int) → Option (Int) := fun x => match x with
  | (a0, a1) =>
    (F_numbers_Down ((wr (0 - a0)), a1)).bind fun y1 =>
    some (wr (0 - y1))

noncomputable def F_tow_until : (TRun × Int) → Option (TBounds) := fun x => match x with
  | (a0, a1) =>
    (F_numbers_Up ((wr (60 * (minmax true (wr (a1 - a0.From)) (wr (a0.From - a1))))), a0.Speed.High)).bind fun y1 =>
    (F_numbers_Up ((wr (60 * (minmax true (wr (a1 - a0.From)) (wr (a0.From - a1))))), a0.Speed.Low)).bind fun y2 =>
    some (⟨(wr (a0.Wait.Low + y1)), (wr (a0.Wait.High + y2))⟩ : TBounds)

noncomputable def L_tow_arrive_1 (a1 : Int) (a0 : TVoyage) : LoopD (Int × Int × Int × Int) ((Int × Int)) (Unit) where
  step := fun s => match s with
    | (s2, s3, s4, s5) =>
      bif (decide (s3 < ((a0.Runs).length : Int))) then
        (idx? (a0.Runs) (s3)).bind fun x12 =>
        bif (s2 == a1) then
          some (.inr (s4, s5))
        else
          (F_tow_covers (x12.From, x12.To, ([a1] : List Int))).bind fun y13 =>
          bif y13 then
            (F_tow_until (x12, a1)).bind fun y14 =>
            (F_numbers_Sum (([(⟨s4, s5⟩ : TBounds), y14] : List TBounds))).bind fun y15 =>
            some (.inl (a1, (wr (s3 + 1)), y15.Low, y15.High))
          else
            (F_tow_until (x12, x12.To)).bind fun y16 =>
            (F_numbers_Sum (([(⟨s4, s5⟩ : TBounds), y16] : List TBounds))).bind fun y17 =>
            some (.inl (x12.To, (wr (s3 + 1)), y17.Low, y17.High))
      else
        some (.inr (s4, s5))
  at_ := fun s gh => match s, gh with
    | (s2, s3, s4, s5), () => ⟨[(1, (V.v (.int .i64 (a1)))), (4, (V.box 1 0)), (5, (V.box 9 0)), (6, (V.v (.int .i64 (s2)))), (17, (V.sl (recs eTRun (a0.Runs)) (a0.Runs).length)), (18, (V.v (.int .i64 (((a0.Runs).length : Int))))), (19, (V.v (.int .i64 (s3))))], [(1, Bx.var [(V.v (.int .i64 (0))), (V.v (.int .i64 (0)))] false), (9, Bx.var [(V.v (.int .i64 (s4))), (V.v (.int .i64 (s5)))] false)], 10⟩
noncomputable def F_tow_arrive : (TVoyage × Int) → Option (TBounds) := fun x => match x with
  | (a0, a1) =>
    (idx? (a0.Runs) (0)).bind fun x1 =>
    (loopC (L_tow_arrive_1 a1 a0).step (x1.From, 0, a0.Start.Low, a0.Start.High)).bind fun e => match e with
    | (s18, s19) =>
      some (⟨s18, s19⟩ : TBounds)

noncomputable def F_tow_Arrive : (TVoyage × Int) → Option (TBounds × Int) := fun x => match x with
  | (a0, a1) =>
    (F_tow_Check (a0)).bind fun y1 =>
    bif (y1 != 0) then
      some ((⟨0, 0⟩ : TBounds), y1)
    else
      (F_tow_onWay (a0, ([a1] : List Int))).bind fun y2 =>
      bif (!y2) then
        some ((⟨0, 0⟩ : TBounds), 7)
      else
        (F_tow_arrive (a0, a1)).bind fun y3 =>
        some (y3, 0)

noncomputable def F_river_stream_hours : (Triver_stream) → Option (Int) := fun x => match x with
  | (a0) =>
    (idx? (a0.flows_) (0)).bind fun x1 =>
    some ((x1).length : Int)

noncomputable def L_river_stream_checkWay_1 (a1 : List TPass) (a0 : Triver_stream) : LoopD (Int) (Unit ⊕ Int) (Unit) where
  step := fun s => match s with
    | s1 =>
      bif (decide (s1 < ((a1).length : Int))) then
        (idx? (a1) (s1)).bind fun x6 =>
        (F_river_find (a0.River, x6.Place)).bind fun y7 =>
        bif (!y7.2) then
          some (.inr (.inr 7))
        else
          (F_river_stream_hours (a0)).bind fun y8 =>
          (F_numbers_Valid (x6.Hours, 0, (wr (y8 - 1)))).bind fun y9 =>
          bif (!y9) then
            some (.inr (.inr 3))
          else
            some (.inl (wr (s1 + 1)))
      else
        some (.inr (.inl ()))
  at_ := fun s gh => match s, gh with
    | s1, () => ⟨[(2, (V.box 0 0)), (4, (V.v (.int .i64 (0)))), (15, (V.sl (recs eTPass (a1)) (a1).length)), (16, (V.v (.int .i64 (((a1).length : Int))))), (17, (V.v (.int .i64 (s1))))], [(0, Bx.var [(V.sl (recs eTReach (a0.River.Reaches)) (a0.River.Reaches).length), (V.sl (recs eTShoal (a0.River.Shoals)) (a0.River.Shoals).length), (V.sl (recs (eS eTBounds) (a0.flows_)) (a0.flows_).length)] false)], 1⟩
noncomputable def F_river_stream_checkWay : (Triver_stream × (List TPass)) → Option (Int) := fun x => match x with
  | (a0, a1) =>
    bif (((a1).length : Int) == 0) then
      some 4
    else
      bif (decide (((a1).length : Int) > 60)) then
        some 5
      else
        (loopC (L_river_stream_checkWay_1 a1 a0).step 0).bind fun e => match e with
        | (.inl ()) =>
          some 0
        | (.inr r10) =>
          some r10

noncomputable def L_slices_IndexFunc_L_RateRow_RateRow_1 (a0 : List TRateRow) (a1 : (TRateRow → Option Bool)) (g : FuncId) (caps : List V) : LoopD (Int) (Unit ⊕ Int) (Unit) where
  step := fun s => match s with
    | s1 =>
      bif (decide (s1 < ((a0).length : Int))) then
        (idx? (a0) (s1)).bind fun x4 =>
        (a1 (x4)).bind fun y5 =>
        bif y5 then
          some (.inr (.inr s1))
        else
          some (.inl (wr (s1 + 1)))
      else
        some (.inr (.inl ()))
  at_ := fun s gh => match s, gh with
    | s1, () => ⟨[(0, (V.sl (recs eTRateRow (a0)) (a0).length)), (1, (V.fn g caps)), (4, (V.v (.int .i64 (0)))), (7, (V.v (.int .i64 (((a0).length : Int))))), (8, (V.v (.int .i64 (s1))))], [], 0⟩
noncomputable def F_slices_IndexFunc_L_RateRow_RateRow : ((List TRateRow) × ((TRateRow → Option Bool)) × FuncId × (List V)) → Option (Int) := fun x => match x with
  | (a0, a1, g, caps) =>
    (loopC (L_slices_IndexFunc_L_RateRow_RateRow_1 a0 a1 g caps).step 0).bind fun e => match e with
    | (.inl ()) =>
      some (-1)
    | (.inr r6) =>
      some r6

noncomputable def F_river_curveAt_1 : (TRateRow × Int) → Option (Bool) := fun x => match x with
  | (a0, c0) =>
    some (decide (c0 ≤ a0.Flow))

noncomputable def F_river_curveAt : ((List TRateRow) × Int × ((Int × Int → Option Int)) × FuncId × (List V)) → Option (Int) := fun x => match x with
  | (a0, a1, a2, g, caps) =>
    (F_slices_IndexFunc_L_RateRow_RateRow (a0, (fun q => F_river_curveAt_1 (q, a1)), 63, [(V.fptr [(V.v (.int .i64 (a1)))])])).bind fun y1 =>
    bif (decide (y1 < 0)) then
      (idx? (a0) ((wr (((a0).length : Int) - 1)))).bind fun x2 =>
      some x2.Level
    else
      bif (y1 == 0) then
        (idx? (a0) (0)).bind fun x3 =>
        some x3.Level
      else
        (idx? (a0) ((wr (y1 - 1)))).bind fun x4 =>
        (idx? (a0) (y1)).bind fun x5 =>
        (a2 ((wr ((wr (x5.Level - x4.Level)) * (wr (a1 - x4.Flow)))), (wr (x5.Flow - x4.Flow)))).bind fun y6 =>
        some (wr (x4.Level + y6))

noncomputable def F_river_levelAt : (TReach × TBounds) → Option (TBounds) := fun x => match x with
  | (a0, a1) =>
    (F_river_curveAt (a0.Curve, a1.Low, (fun q => F_numbers_Down (q.1, q.2)), 47, [])).bind fun y1 =>
    (F_river_curveAt (a0.Curve, a1.High, (fun q => F_numbers_Up (q.1, q.2)), 48, [])).bind fun y2 =>
    some (⟨(minmax true y1 a0.Weir), (minmax true y2 a0.Weir)⟩ : TBounds)

noncomputable def F_river_stream_level : (Triver_stream × Int × Int) → Option (TBounds) := fun x => match x with
  | (a0, a1, a2) =>
    (idx? (a0.River.Reaches) (a1)).bind fun x1 =>
    (idx? (a0.flows_) (a1)).bind fun x2 =>
    (idx? (x2) (a2)).bind fun x3 =>
    (F_river_levelAt (x1, x3)).bind fun y4 =>
    some y4

noncomputable def F_river_shoalAt : (TShoal × Int) → Option (TBounds) := fun x => match x with
  | (a0, a1) =>
    (F_numbers_Down ((wr (a0.Grow.Low * (minmax true (wr (a1 - a0.Sounded)) 0))), 24)).bind fun y1 =>
    (F_numbers_Up ((wr (a0.Grow.High * (minmax true (wr (a1 - a0.Sounded)) 0))), 24)).bind fun y2 =>
    some (⟨(wr (a0.Bed.Low + y1)), (wr (a0.Bed.High + y2))⟩ : TBounds)

noncomputable def L_river_site_bed_1 (a0 : Triver_site) (a1 : Int) : LoopD (Int × Int × Int) ((Int × Int)) (Unit) where
  step := fun s => match s with
    | (s1, s2, s3) =>
      bif (decide (s1 < ((a0.shoals_).length : Int))) then
        (idx? (a0.shoals_) (s1)).bind fun x6 =>
        bif (x6.Place == a0.place_) then
          (F_river_shoalAt (x6, a1)).bind fun y7 =>
          some (.inl ((wr (s1 + 1)), (minmax true s2 y7.Low), (minmax true s3 y7.High)))
        else
          some (.inl ((wr (s1 + 1)), s2, s3))
      else
        some (.inr (s2, s3))
  at_ := fun s gh => match s, gh with
    | (s1, s2, s3), () => ⟨[(0, (V.yld 12)), (1, (V.box 7 0)), (2, (V.box 8 0)), (13, (V.sl (recs eTShoal (a0.shoals_)) (a0.shoals_).length)), (14, (V.v (.int .i64 (((a0.shoals_).length : Int))))), (15, (V.v (.int .i64 (s1))))], [(1, Bx.var [(V.v (.int .i64 (0))), (V.v (.int .i64 (0)))] false), (3, Bx.var [(V.v (.int .i64 (s2))), (V.v (.int .i64 (s3)))] false), (7, Bx.var [(V.v (.int .i64 (a0.Reach.Length))), (V.v (.int .i64 (a0.Reach.Delay))), (V.v (.int .i64 (a0.Reach.Base.Low))), (V.v (.int .i64 (a0.Reach.Base.High))), (V.sl (recs eTRateRow (a0.Reach.Curve)) (a0.Reach.Curve).length), (V.v (.int .i64 (a0.Reach.Weir))), (V.v (.int .i64 (a0.Reach.Bottom.Low))), (V.v (.int .i64 (a0.Reach.Bottom.High))), (V.v (.int .i64 (a0.Reach.Flood))), (V.v (.int .i64 (a0.number_))), (V.v (.int .i64 (a0.place_))), (V.sl (recs eTShoal (a0.shoals_)) (a0.shoals_).length)] false), (8, Bx.var [(V.v (.int .i64 (a1)))] false)], 14⟩
noncomputable def F_river_site_bed : (Triver_site × Int) → Option (TBounds) := fun x => match x with
  | (a0, a1) =>
    (loopC (L_river_site_bed_1 a0 a1).step (0, (minmax true 0 a0.Reach.Bottom.Low), (minmax true 0 a0.Reach.Bottom.High))).bind fun e => match e with
    | (s8, s9) =>
      some (⟨s8, s9⟩ : TBounds)

noncomputable def F_river_stream_depth : (Triver_stream × Triver_site × Int) → Option (TBounds) := fun x => match x with
  | (a0, a1, a2) =>
    (F_river_stream_level (a0, a1.number_, a2)).bind fun y1 =>
    (F_river_site_bed (a1, a2)).bind fun y2 =>
    some (⟨(minmax true (wr (y1.Low - y2.High)) 0), (minmax true (wr (y1.High - y2.Low)) 0)⟩ : TBounds)

noncomputable def L_river_stream_passDepth_1 (a1 : TPass) (a0 : Triver_stream) (y1 : Triver_site × Bool) : LoopD (Int × Int × Int × Int) ((Int × Int × Int)) (Unit) where
  step := fun s => match s with
    | (s3, s4, s5, s6) =>
      bif (decide (s4 < (wr ((wr (a1.Hours.High - a1.Hours.Low)) + 1)))) then
        (F_river_stream_depth (a0, y1.1, (wr (a1.Hours.Low + s4)))).bind fun y8 =>
        bif (decide (y8.Low < s5)) then
          some (.inl ((wr (a1.Hours.Low + s4)), (wr (s4 + 1)), y8.Low, (minmax true s6 y8.High)))
        else
          some (.inl (s3, (wr (s4 + 1)), s5, (minmax true s6 y8.High)))
      else
        some (.inr (s3, s5, s6))
  at_ := fun s gh => match s, gh with
    | (s3, s4, s5, s6), () => ⟨[(2, (V.box 0 0)), (3, (V.box 1 0)), (4, (V.box 2 0)), (5, (V.v (.int .i64 (s3)))), (6, (V.box 12 0)), (34, (V.v (.int .i64 ((wr ((wr (a1.Hours.High - a1.Hours.Low)) + 1)))))), (35, (V.v (.int .i64 (s4))))], [(0, Bx.var [(V.sl (recs eTReach (a0.River.Reaches)) (a0.River.Reaches).length), (V.sl (recs eTShoal (a0.River.Shoals)) (a0.River.Shoals).length), (V.sl (recs (eS eTBounds) (a0.flows_)) (a0.flows_).length)] false), (1, Bx.var [(V.v (.int .i64 (a1.Place))), (V.v (.int .i64 (a1.Hours.Low))), (V.v (.int .i64 (a1.Hours.High)))] false), (2, Bx.var [(V.v (.int .i64 (s5))), (V.v (.int .i64 (s6)))] false), (12, Bx.var [(V.v (.int .i64 (y1.1.Reach.Length))), (V.v (.int .i64 (y1.1.Reach.Delay))), (V.v (.int .i64 (y1.1.Reach.Base.Low))), (V.v (.int .i64 (y1.1.Reach.Base.High))), (V.sl (recs eTRateRow (y1.1.Reach.Curve)) (y1.1.Reach.Curve).length), (V.v (.int .i64 (y1.1.Reach.Weir))), (V.v (.int .i64 (y1.1.Reach.Bottom.Low))), (V.v (.int .i64 (y1.1.Reach.Bottom.High))), (V.v (.int .i64 (y1.1.Reach.Flood))), (V.v (.int .i64 (y1.1.number_))), (V.v (.int .i64 (y1.1.place_))), (V.sl (recs eTShoal (y1.1.shoals_)) (y1.1.shoals_).length)] false)], 13⟩
noncomputable def F_river_stream_passDepth : (Triver_stream × TPass) → Option (TBounds × Int) := fun x => match x with
  | (a0, a1) =>
    (F_river_find (a0.River, a1.Place)).bind fun y1 =>
    (F_river_stream_depth (a0, y1.1, a1.Hours.Low)).bind fun y2 =>
    (loopC (L_river_stream_passDepth_1 a1 a0 y1).step (a1.Hours.Low, 0, y2.Low, y2.High)).bind fun e => match e with
    | (s9, s10, s11) =>
      some ((⟨s10, s11⟩ : TBounds), s9)

noncomputable def L_river_Shallowest_1 (y1 : Triver_stream × Int) (a2 : List TPass) : LoopD (Int × Int × Int × Int × Int) ((Int × Int × Int × Int)) (Unit) where
  step := fun s => match s with
    | (s3, s4, s5, s6, s7) =>
      bif (decide (s4 < ((a2).length : Int))) then
        (idx? (a2) (s4)).bind fun x10 =>
        (F_river_stream_passDepth (y1.1, x10)).bind fun y11 =>
        bif (decide (y11.1.Low < s5)) then
          some (.inl (y11.2, (wr (s4 + 1)), y11.1.Low, (minmax false s6 y11.1.High), s4))
        else
          some (.inl (s3, (wr (s4 + 1)), s5, (minmax false s6 y11.1.High), s7))
      else
        some (.inr (s7, s3, s5, s6))
  at_ := fun s gh => match s, gh with
    | (s3, s4, s5, s6, s7), () => ⟨[(6, (V.box 1 0)), (7, (V.v (.int .i64 (s7)))), (8, (V.v (.int .i64 (s3)))), (9, (V.v (.int .i64 (y1.2)))), (10, (V.box 11 0)), (34, (V.sl (recs eTPass (a2)) (a2).length)), (35, (V.v (.int .i64 (((a2).length : Int))))), (36, (V.v (.int .i64 (s4))))], [(1, Bx.var [(V.v (.int .i64 (s5))), (V.v (.int .i64 (s6)))] false), (11, Bx.var [(V.sl (recs eTReach (y1.1.River.Reaches)) (y1.1.River.Reaches).length), (V.sl (recs eTShoal (y1.1.River.Shoals)) (y1.1.River.Shoals).length), (V.sl (recs (eS eTBounds) (y1.1.flows_)) (y1.1.flows_).length)] false)], 12⟩
noncomputable def F_river_Shallowest : (TRiver × (List (List TBounds)) × (List TPass)) → Option (TBounds × Int × Int × Int) := fun x => match x with
  | (a0, a1, a2) =>
    (F_river_run (a0, a1)).bind fun y1 =>
    bif (y1.2 != 0) then
      some ((⟨0, 0⟩ : TBounds), 0, 0, y1.2)
    else
      (F_river_stream_checkWay (y1.1, a2)).bind fun y2 =>
      bif (y2 != 0) then
        some ((⟨0, 0⟩ : TBounds), 0, 0, y2)
      else
        (loopC (L_river_Shallowest_1 y1 a2).step (0, 0, 9223372036854775807, 9223372036854775807, 0)).bind fun e => match e with
        | (s12, s13, s14, s15) =>
          some ((⟨s14, s15⟩ : TBounds), s12, s13, 0)

noncomputable def F_thalwegtop_haulPick : (TBounds × Int) → Option (Int) := fun x => match x with
  | (a0, a1) =>
    some (wr (a0.Low + (wr (Int.tdiv (wr ((wr (a0.High - a0.Low)) * (wr (a1)))) 255))))

noncomputable def F_thalwegtop_haulPart : ((List Int) × Int) → Option (Int) := fun x => match x with
  | (a0, a1) =>
    bif (((a0).length : Int) == 0) then
      some 0
    else
      (nz? (((a0).length : Int))).bind fun _ =>
      (idx? (a0) ((Int.tmod a1 ((a0).length : Int)))).bind fun x1 =>
      some x1

noncomputable def F_river_stream_findAt : (Triver_stream × Int × Int) → Option (Triver_site × Int) := fun x => match x with
  | (a0, a1, a2) =>
    (F_river_find (a0.River, a1)).bind fun y1 =>
    bif (!y1.2) then
      some ((⟨(⟨0, 0, (⟨0, 0⟩ : TBounds), ([] : List TRateRow), 0, (⟨0, 0⟩ : TBounds), 0⟩ : TReach), 0, 0, ([] : List TShoal)⟩ : Triver_site), 7)
    else
      (F_river_stream_hours (a0)).bind fun y2 =>
      (F_numbers_Within (0, (wr (y2 - 1)), ([a2] : List Int))).bind fun y3 =>
      bif (!y3) then
        some ((⟨(⟨0, 0, (⟨0, 0⟩ : TBounds), ([] : List TRateRow), 0, (⟨0, 0⟩ : TBounds), 0⟩ : TReach), 0, 0, ([] : List TShoal)⟩ : Triver_site), 3)
      else
        some (y1.1, 0)

noncomputable def F_river_Depth : (TRiver × (List (List TBounds)) × Int × Int) → Option (TBounds × Int) := fun x => match x with
  | (a0, a1, a2, a3) =>
    (F_river_run (a0, a1)).bind fun y1 =>
    bif (y1.2 != 0) then
      some ((⟨0, 0⟩ : TBounds), y1.2)
    else
      (F_river_stream_findAt (y1.1, a2, a3)).bind fun y2 =>
      bif (y2.2 != 0) then
        some ((⟨0, 0⟩ : TBounds), y2.2)
      else
        (F_river_stream_depth (y1.1, y2.1, a3)).bind fun y3 =>
        some (y3, 0)

noncomputable def L_thalwegtop_TopDeepEnough_1 (a1 : List (List TBounds)) (x9 : TRun) (x10 : TRun) (a0 : TRiver) (a2 : Tthalwegtop_HaulTrip) : LoopD (Int × Int) (Int) (Unit) where
  step := fun s => match s with
    | (s11, s12) =>
      bif (decide (s12 < ((a0.Reaches).length : Int))) then
        (idx? (a0.Reaches) (s12)).bind fun x14 =>
        some (.inl ((wr (s11 + x14.Length)), (wr (s12 + 1))))
      else
        some (.inr s11)
  at_ := fun s gh => match s, gh with
    | (s11, s12), () => ⟨[(1, (V.sl (recs (eS eTBounds) (a1)) (a1).length)), (3, (V.box 0 0)), (5, (V.box 1 0)), (6, (V.v (.bool (false)))), (7, (V.box 5 0)), (8, (V.v (.int .i64 (x9.From)))), (9, (V.v (.int .i64 (x10.To)))), (10, (V.v (.int .i64 (s11)))), (11, (V.v (.int .i64 (s12))))], [(0, Bx.var [(V.sl (recs eTReach (a0.Reaches)) (a0.Reaches).length), (V.sl (recs eTShoal (a0.Shoals)) (a0.Shoals).length)] false), (1, Bx.var [(V.v (.int .i64 (a2.Voyage.Start.Low))), (V.v (.int .i64 (a2.Voyage.Start.High))), (V.sl (recs eTRun (a2.Voyage.Runs)) (a2.Voyage.Runs).length), (V.v (.int .i64 (a2.Voyage.Length))), (V.v (.int .i64 (a2.Voyage.Width))), (V.sl (recs (eI .u16) (a2.Places)) (a2.Places).length), (V.sl (recs (eI .u8) (a2.By)) (a2.By).length)] false), (5, Bx.var [(V.v (.int .i64 (a2.Voyage.Start.Low))), (V.v (.int .i64 (a2.Voyage.Start.High))), (V.sl (recs eTRun (a2.Voyage.Runs)) (a2.Voyage.Runs).length), (V.v (.int .i64 (a2.Voyage.Length))), (V.v (.int .i64 (a2.Voyage.Width)))] false)], 6⟩
noncomputable def L_thalwegtop_TopDeepEnough_2 (a1 : List (List TBounds)) (x9 : TRun) (x10 : TRun) (s15 : Int) (a0 : TRiver) (a2 : Tthalwegtop_HaulTrip) : LoopD (Int × (List TPass)) (((List TPass)) ⊕ Bool) (Unit) where
  step := fun s => match s with
    | (s16, s17) =>
      bif (decide (s16 < ((a2.Places).length : Int))) then
        (idx? (a2.Places) (s16)).bind fun x25 =>
        (nz? ((wr ((wr ((minmax true x9.From x10.To) - (minmax false x9.From x10.To))) + 1)))).bind fun _ =>
        (F_thalwegtop_haulVoyage (a2.Voyage)).bind fun y26 =>
        (F_tow_Arrive (y26, (wr ((minmax false x9.From x10.To) + (Int.tmod (wr (x25)) (wr ((wr ((minmax true x9.From x10.To) - (minmax false x9.From x10.To))) + 1))))))).bind fun y27 =>
        bif (y27.2 != 0) then
          some (.inr (.inr false))
        else
          bif (decide (y27.1.Low < 0)) then
            some (.inr (.inr false))
          else
            bif (decide (y27.1.Low > y27.1.High)) then
              some (.inr (.inr false))
            else
              bif (decide ((wr ((minmax false x9.From x10.To) + (Int.tmod (wr (x25)) (wr ((wr ((minmax true x9.From x10.To) - (minmax false x9.From x10.To))) + 1))))) ≥ s15)) then
                (F_thalwegtop_knownRiver ()).bind fun y28 =>
                some (.inr (.inr y28))
              else
                (idx? (a1) (0)).bind fun x29 =>
                bif (decide ((wr (Int.tdiv y27.1.High 60)) ≥ ((x29).length : Int))) then
                  (F_thalwegtop_knownRiver ()).bind fun y30 =>
                  some (.inr (.inr y30))
                else
                  (app? (s17) (([(⟨(wr ((minmax false x9.From x10.To) + (Int.tmod (wr (x25)) (wr ((wr ((minmax true x9.From x10.To) - (minmax false x9.From x10.To))) + 1))))), (⟨(wr (Int.tdiv y27.1.Low 60)), (wr (Int.tdiv y27.1.High 60))⟩ : TBounds)⟩ : TPass)] : List TPass)) 24).bind fun l31 =>
                  some (.inl ((wr (s16 + 1)), l31))
      else
        some (.inr (.inl s17))
  at_ := fun s gh => match s, gh with
    | (s16, s17), () => ⟨[(1, (V.sl (recs (eS eTBounds) (a1)) (a1).length)), (3, (V.box 0 0)), (5, (V.box 1 0)), (6, (V.v (.bool (false)))), (7, (V.box 5 0)), (8, (V.v (.int .i64 (x9.From)))), (9, (V.v (.int .i64 (x10.To)))), (10, (V.v (.int .i64 (s15)))), (12, (V.osl 11 (s17).length)), (13, (V.v (.int .i64 (s16))))], [(0, Bx.var [(V.sl (recs eTReach (a0.Reaches)) (a0.Reaches).length), (V.sl (recs eTShoal (a0.Shoals)) (a0.Shoals).length)] false), (1, Bx.var [(V.v (.int .i64 (a2.Voyage.Start.Low))), (V.v (.int .i64 (a2.Voyage.Start.High))), (V.sl (recs eTRun (a2.Voyage.Runs)) (a2.Voyage.Runs).length), (V.v (.int .i64 (a2.Voyage.Length))), (V.v (.int .i64 (a2.Voyage.Width))), (V.sl (recs (eI .u16) (a2.Places)) (a2.Places).length), (V.sl (recs (eI .u8) (a2.By)) (a2.By).length)] false), (5, Bx.var [(V.v (.int .i64 (a2.Voyage.Start.Low))), (V.v (.int .i64 (a2.Voyage.Start.High))), (V.sl (recs eTRun (a2.Voyage.Runs)) (a2.Voyage.Runs).length), (V.v (.int .i64 (a2.Voyage.Length))), (V.v (.int .i64 (a2.Voyage.Width)))] false), (11, Bx.row 51 3 (recs eTPass (s17)) 0)], 12⟩
noncomputable def L_thalwegtop_TopDeepEnough_3 (a1 : List (List TBounds)) (y36 : TBounds × Int × Int × Int) (a0 : TRiver) (a2 : Tthalwegtop_HaulTrip) (y40 : Int) (y38 : TVoyage) (s32 : List TPass) : LoopD (Int × (List TRun)) (((List TRun))) (Unit) where
  step := fun s => match s with
    | (s41, s42) =>
      bif (decide (s41 < ((s42).length : Int))) then
        (idx? (a2.Voyage.Runs) (s41)).bind fun x55 =>
        (F_thalwegtop_haulPart (a2.By, (wr ((wr (2 * s41)) + 1)))).bind fun y56 =>
        (F_thalwegtop_haulPick (x55.Speed, y56)).bind fun y57 =>
        (idx? (a2.Voyage.Runs) (s41)).bind fun x58 =>
        (F_thalwegtop_haulPart (a2.By, (wr ((wr (2 * s41)) + 2)))).bind fun y59 =>
        (F_thalwegtop_haulPick (x58.Wait, y59)).bind fun y60 =>
        (idx? (s42) (s41)).bind fun x61 =>
        (set? (s42) (s41) ((⟨x61.From, x61.To, (⟨y57, y57⟩ : TBounds), x61.Wait⟩ : TRun))).bind fun l63 =>
        (idx? (l63) (s41)).bind fun x64 =>
        (set? (l63) (s41) ((⟨x64.From, x64.To, x64.Speed, (⟨y60, y60⟩ : TBounds)⟩ : TRun))).bind fun l66 =>
        some (.inl ((wr (s41 + 1)), l66))
      else
        some (.inr s42)
  at_ := fun s gh => match s, gh with
    | (s41, s42), () => ⟨[(1, (V.sl (recs (eS eTBounds) (a1)) (a1).length)), (3, (V.box 0 0)), (5, (V.box 1 0)), (6, (V.v (.bool (false)))), (7, (V.box 5 0)), (12, (V.osl 11 (s32).length)), (18, (V.box 30 0)), (19, (V.v (.int .i64 (y36.2.1)))), (20, (V.v (.int .i64 (y36.2.2.1)))), (22, (V.box 64 0)), (24, (V.v (.int .i64 (s41))))], [(0, Bx.var [(V.sl (recs eTReach (a0.Reaches)) (a0.Reaches).length), (V.sl (recs eTShoal (a0.Shoals)) (a0.Shoals).length)] false), (1, Bx.var [(V.v (.int .i64 (a2.Voyage.Start.Low))), (V.v (.int .i64 (a2.Voyage.Start.High))), (V.sl (recs eTRun (a2.Voyage.Runs)) (a2.Voyage.Runs).length), (V.v (.int .i64 (a2.Voyage.Length))), (V.v (.int .i64 (a2.Voyage.Width))), (V.sl (recs (eI .u16) (a2.Places)) (a2.Places).length), (V.sl (recs (eI .u8) (a2.By)) (a2.By).length)] false), (5, Bx.var [(V.v (.int .i64 (a2.Voyage.Start.Low))), (V.v (.int .i64 (a2.Voyage.Start.High))), (V.sl (recs eTRun (a2.Voyage.Runs)) (a2.Voyage.Runs).length), (V.v (.int .i64 (a2.Voyage.Length))), (V.v (.int .i64 (a2.Voyage.Width)))] false), (11, Bx.row 51 3 (recs eTPass (s32)) 0), (30, Bx.var [(V.v (.int .i64 (y36.1.Low))), (V.v (.int .i64 (y36.1.High)))] false), (63, Bx.row 42 6 (recs eTRun (s42)) 0), (64, Bx.var [(V.v (.int .i64 (y40))), (V.v (.int .i64 (y40))), (V.osl 63 (s42).length), (V.v (.int .i64 (y38.Length))), (V.v (.int .i64 (y38.Width)))] false)], 65⟩
noncomputable def L_thalwegtop_TopDeepEnough_4 (a1 : List (List TBounds)) (y36 : TBounds × Int × Int × Int) (a0 : TRiver) (y40 : Int) (y38 : TVoyage) (s32 : List TPass) (s67 : List TRun) : LoopD (Int) (Unit ⊕ Bool) (Nat) where
  step := fun s => match s with
    | s68 =>
      bif (decide (s68 < ((s32).length : Int))) then
        (F_thalwegtop_haulVoyage ((⟨(⟨y40, y40⟩ : TBounds), s67, y38.Length, y38.Width⟩ : TVoyage))).bind fun y82 =>
        (idx? (s32) (s68)).bind fun x83 =>
        (F_tow_Arrive (y82, x83.Place)).bind fun y85 =>
        bif (y85.2 != 0) then
          some (.inr (.inr false))
        else
          bif (y85.1.Low != y85.1.High) then
            some (.inr (.inr false))
          else
            (idx? (s32) (s68)).bind fun x86 =>
            bif (decide ((wr (Int.tdiv y85.1.Low 60)) < x86.Hours.Low)) then
              some (.inr (.inr false))
            else
              (idx? (s32) (s68)).bind fun x88 =>
              bif (decide ((wr (Int.tdiv y85.1.Low 60)) > x88.Hours.High)) then
                some (.inr (.inr false))
              else
                (F_thalwegtop_haulRiver (a0)).bind fun y90 =>
                (F_thalwegtop_haulSides (a1)).bind fun y91 =>
                (idx? (s32) (s68)).bind fun x92 =>
                (F_river_Depth (y90, y91, x92.Place, (wr (Int.tdiv y85.1.Low 60)))).bind fun y94 =>
                bif (y94.2 != 0) then
                  some (.inr (.inr false))
                else
                  bif (decide (y94.1.Low < y36.1.Low)) then
                    some (.inr (.inr false))
                  else
                    bif (y94.1.Low == y36.1.Low) then
                      bif (s68 == y36.2.1) then
                        bif (decide ((wr (Int.tdiv y85.1.Low 60)) < y36.2.2.1)) then
                          some (.inr (.inr false))
                        else
                          some (.inl (wr (s68 + 1)))
                      else
                        some (.inl (wr (s68 + 1)))
                    else
                      some (.inl (wr (s68 + 1)))
      else
        some (.inr (.inl ()))
  at_ := fun s gh => match s, gh with
    | s68, p63 => ⟨[(1, (V.sl (recs (eS eTBounds) (a1)) (a1).length)), (3, (V.box 0 0)), (6, (V.v (.bool (false)))), (12, (V.osl 11 (s32).length)), (18, (V.box 30 0)), (19, (V.v (.int .i64 (y36.2.1)))), (20, (V.v (.int .i64 (y36.2.2.1)))), (22, (V.box 64 0)), (27, (V.v (.int .i64 (s68))))], [(0, Bx.var [(V.sl (recs eTReach (a0.Reaches)) (a0.Reaches).length), (V.sl (recs eTShoal (a0.Shoals)) (a0.Shoals).length)] false), (11, Bx.row 51 3 (recs eTPass (s32)) 0), (30, Bx.var [(V.v (.int .i64 (y36.1.Low))), (V.v (.int .i64 (y36.1.High)))] false), (63, Bx.row 42 6 (recs eTRun (s67)) p63), (64, Bx.var [(V.v (.int .i64 (y40))), (V.v (.int .i64 (y40))), (V.osl 63 (s67).length), (V.v (.int .i64 (y38.Length))), (V.v (.int .i64 (y38.Width)))] false)], 65⟩
noncomputable def F_thalwegtop_TopDeepEnough : (TRiver × (List (List TBounds)) × Tthalwegtop_HaulTrip) → Option (Bool) := fun x => match x with
  | (a0, a1, a2) =>
    (F_thalwegtop_haulGood (a0, a1)).bind fun y1 =>
    bif (!y1) then
      (F_thalwegtop_knownRiver ()).bind fun y2 =>
      some y2
    else
      bif (decide (((a2.Voyage.Runs).length : Int) < 1)) then
        (F_thalwegtop_knownRiver ()).bind fun y3 =>
        some y3
      else
        bif (decide (((a2.Voyage.Runs).length : Int) > 25)) then
          (F_thalwegtop_knownRiver ()).bind fun y4 =>
          some y4
        else
          bif (decide (((a2.Places).length : Int) > 10)) then
            (F_thalwegtop_knownRiver ()).bind fun y5 =>
            some y5
          else
            (F_thalwegtop_haulVoyage (a2.Voyage)).bind fun y6 =>
            (F_tow_Check (y6)).bind fun y7 =>
            bif (y7 != 0) then
              (F_thalwegtop_knownRiver ()).bind fun y8 =>
              some y8
            else
              (idx? (a2.Voyage.Runs) (0)).bind fun x9 =>
              (idx? (a2.Voyage.Runs) ((wr (((a2.Voyage.Runs).length : Int) - 1)))).bind fun x10 =>
              (loopC (L_thalwegtop_TopDeepEnough_1 a1 x9 x10 a0 a2).step (0, 0)).bind fun e => match e with
              | s15 =>
                (loopC (L_thalwegtop_TopDeepEnough_2 a1 x9 x10 s15 a0 a2).step (0, ([] : List TPass))).bind fun e => match e with
                | (.inl s32) =>
                  (F_thalwegtop_haulRiver (a0)).bind fun y33 =>
                  (F_thalwegtop_haulSides (a1)).bind fun y34 =>
                  (app? (([] : List TPass)) (s32) 24).bind fun l35 =>
                  (F_river_Shallowest (y33, y34, l35)).bind fun y36 =>
                  bif (((s32).length : Int) == 0) then
                    bif (y36.2.2.2 == 4) then
                      (F_thalwegtop_knownRiver ()).bind fun y37 =>
                      some y37
                    else
                      some false
                  else
                    bif (y36.2.2.2 != 0) then
                      some false
                    else
                      bif (decide (y36.2.1 < 0)) then
                        some false
                      else
                        bif (decide (y36.2.1 ≥ ((s32).length : Int))) then
                          some false
                        else
                          bif (decide (y36.1.Low < 0)) then
                            some false
                          else
                            bif (decide (y36.1.Low > y36.1.High)) then
                              some false
                            else
                              (F_thalwegtop_haulVoyage (a2.Voyage)).bind fun y38 =>
                              (F_thalwegtop_haulPart (a2.By, 0)).bind fun y39 =>
                              (F_thalwegtop_haulPick (a2.Voyage.Start, y39)).bind fun y40 =>
                              (loopC (L_thalwegtop_TopDeepEnough_3 a1 y36 a0 a2 y40 y38 s32).step (0, y38.Runs)).bind fun e => match e with
                              | s67 =>
                                (loopC (L_thalwegtop_TopDeepEnough_4 a1 y36 a0 y40 y38 s32 s67).step 0).bind fun e => match e with
                                | (.inl ()) =>
                                  (F_thalwegtop_knownRiver ()).bind fun y95 =>
                                  some y95
                                | (.inr r96) =>
                                  some r96
                | (.inr r97) =>
                  some r97
end Go.Ev
/- What the arguments of the law are. -/
set_option linter.unusedVariables false
set_option linter.unusedSimpArgs false
namespace Go.Ev
open Go.Proofs
set_option maxRecDepth 100000
theorem typ_list {α : Type} {enc : α → List V} {k : α → Prop} {n : Nat} {e : TypeId} (h : ∀ vs, Typ Try.prog n e vs → ∃ a, vs = enc a ∧ k a) : ∀ (ls : List (List V)), (∀ l ∈ ls, Typ Try.prog n e l) → ∃ l : List α, ls.flatten = recs enc l ∧ ls.length = l.length ∧ ∀ x ∈ l, k x
  | [], _ => ⟨[], rfl, rfl, fun x hx => by cases hx⟩
  | x :: ls, hl => by
    obtain ⟨a, rfl, ha⟩ := h x (hl x (by simp))
    obtain ⟨l, h1, h2, h3⟩ := typ_list h ls fun y hy => hl y (by simp [hy])
    refine ⟨a :: l, by simp [recs, List.flatten_cons, h1], by simp [h2], ?_⟩
    intro x hx
    cases hx with
    | head => exact ha
    | tail _ hx => exact h3 x hx
def kIi64 (i : Int) : Prop := IntKind.i64.min ≤ i ∧ i ≤ IntKind.i64.max
theorem typ_Ii64_3 {n : Nat} {vs : List V} (h : Typ Try.prog (n + 1) 3 vs) : ∃ x : Int, vs = [(V.v (.int .i64 (x)))] ∧ kIi64 (x) := by
  simp only [Typ, Try.underlying3] at h
  obtain ⟨i, rfl, hw⟩ := h
  refine ⟨i, rfl, ?_⟩
  simp only [Lit.wf, Bool.and_eq_true, decide_eq_true_eq] at hw
  exact hw
def kTBounds (x : TBounds) : Prop := kIi64 (x.Low) ∧ kIi64 (x.High)
theorem typ_TBounds_28 {n : Nat} {vs : List V} (h : Typ Try.prog (n + 2) 28 vs) : ∃ x : TBounds, vs = eTBounds x ∧ kTBounds x := by
  unfold Typ at h
  simp only [Try.underlying28] at h
  obtain ⟨ls, rfl, h⟩ := h
  obtain ⟨v0, v1, rfl, h0, h1⟩ := all2_2 h
  obtain ⟨x0, rfl, k0⟩ := typ_Ii64_3 (n := n + 0) h0
  obtain ⟨x1, rfl, k1⟩ := typ_Ii64_3 (n := n + 0) h1
  exact ⟨⟨x0, x1⟩, rfl, k0, k1⟩
def kTRateRow (x : TRateRow) : Prop := kIi64 (x.Flow) ∧ kIi64 (x.Level)
theorem typ_TRateRow_69 {n : Nat} {vs : List V} (h : Typ Try.prog (n + 2) 69 vs) : ∃ x : TRateRow, vs = eTRateRow x ∧ kTRateRow x := by
  unfold Typ at h
  simp only [Try.underlying69] at h
  obtain ⟨ls, rfl, h⟩ := h
  obtain ⟨v0, v1, rfl, h0, h1⟩ := all2_2 h
  obtain ⟨x0, rfl, k0⟩ := typ_Ii64_3 (n := n + 0) h0
  obtain ⟨x1, rfl, k1⟩ := typ_Ii64_3 (n := n + 0) h1
  exact ⟨⟨x0, x1⟩, rfl, k0, k1⟩
def kLTRateRow (l : List TRateRow) : Prop := l.length ≤ 140737488355328 ∧ ∀ x ∈ l, kTRateRow (x)
theorem typ_LTRateRow_43 {n : Nat} {vs : List V} (h : Typ Try.prog (n + 3) 43 vs) : ∃ x : List TRateRow, vs = [(V.sl (recs eTRateRow (x)) (x).length)] ∧ kLTRateRow (x) := by
  unfold Typ at h
  simp only [Try.underlying43] at h
  obtain ⟨ls, rfl, h1, h2⟩ := h
  obtain ⟨l, h3, h4, h5⟩ := typ_list (enc := eTRateRow) (fun vs hv => typ_TRateRow_69 (n := n) hv) ls h1
  refine ⟨l, by rw [h3, h4], ?_, h5⟩
  have hb : Try.prog.bytesOf 69 = 16 := by kernel_rfl
  rw [hb, h4] at h2
  have : reachBytes = 140737488351232 := rfl
  omega
def kTReach (x : TReach) : Prop := kIi64 (x.Length) ∧ kIi64 (x.Delay) ∧ kTBounds (x.Base) ∧ kLTRateRow (x.Curve) ∧ kIi64 (x.Weir) ∧ kTBounds (x.Bottom) ∧ kIi64 (x.Flood)
theorem typ_TReach_45 {n : Nat} {vs : List V} (h : Typ Try.prog (n + 4) 45 vs) : ∃ x : TReach, vs = eTReach x ∧ kTReach x := by
  unfold Typ at h
  simp only [Try.underlying45] at h
  obtain ⟨ls, rfl, h⟩ := h
  obtain ⟨v0, v1, v2, v3, v4, v5, v6, rfl, h0, h1, h2, h3, h4, h5, h6⟩ := all2_7 h
  obtain ⟨x0, rfl, k0⟩ := typ_Ii64_3 (n := n + 2) h0
  obtain ⟨x1, rfl, k1⟩ := typ_Ii64_3 (n := n + 2) h1
  obtain ⟨x2, rfl, k2⟩ := typ_TBounds_28 (n := n + 1) h2
  obtain ⟨x3, rfl, k3⟩ := typ_LTRateRow_43 (n := n + 0) h3
  obtain ⟨x4, rfl, k4⟩ := typ_Ii64_3 (n := n + 2) h4
  obtain ⟨x5, rfl, k5⟩ := typ_TBounds_28 (n := n + 1) h5
  obtain ⟨x6, rfl, k6⟩ := typ_Ii64_3 (n := n + 2) h6
  exact ⟨⟨x0, x1, x2, x3, x4, x5, x6⟩, rfl, k0, k1, k2, k3, k4, k5, k6⟩
def kLTReach (l : List TReach) : Prop := l.length ≤ 140737488355328 ∧ ∀ x ∈ l, kTReach (x)
theorem typ_LTReach_22 {n : Nat} {vs : List V} (h : Typ Try.prog (n + 5) 22 vs) : ∃ x : List TReach, vs = [(V.sl (recs eTReach (x)) (x).length)] ∧ kLTReach (x) := by
  unfold Typ at h
  simp only [Try.underlying22] at h
  obtain ⟨ls, rfl, h1, h2⟩ := h
  obtain ⟨l, h3, h4, h5⟩ := typ_list (enc := eTReach) (fun vs hv => typ_TReach_45 (n := n) hv) ls h1
  refine ⟨l, by rw [h3, h4], ?_, h5⟩
  have hb : Try.prog.bytesOf 45 = 88 := by kernel_rfl
  rw [hb, h4] at h2
  have : reachBytes = 140737488351232 := rfl
  omega
def kTShoal (x : TShoal) : Prop := kIi64 (x.Place) ∧ kTBounds (x.Bed) ∧ kIi64 (x.Sounded) ∧ kTBounds (x.Grow)
theorem typ_TShoal_107 {n : Nat} {vs : List V} (h : Typ Try.prog (n + 3) 107 vs) : ∃ x : TShoal, vs = eTShoal x ∧ kTShoal x := by
  unfold Typ at h
  simp only [Try.underlying107] at h
  obtain ⟨ls, rfl, h⟩ := h
  obtain ⟨v0, v1, v2, v3, rfl, h0, h1, h2, h3⟩ := all2_4 h
  obtain ⟨x0, rfl, k0⟩ := typ_Ii64_3 (n := n + 1) h0
  obtain ⟨x1, rfl, k1⟩ := typ_TBounds_28 (n := n + 0) h1
  obtain ⟨x2, rfl, k2⟩ := typ_Ii64_3 (n := n + 1) h2
  obtain ⟨x3, rfl, k3⟩ := typ_TBounds_28 (n := n + 0) h3
  exact ⟨⟨x0, x1, x2, x3⟩, rfl, k0, k1, k2, k3⟩
def kLTShoal (l : List TShoal) : Prop := l.length ≤ 140737488355328 ∧ ∀ x ∈ l, kTShoal (x)
theorem typ_LTShoal_23 {n : Nat} {vs : List V} (h : Typ Try.prog (n + 4) 23 vs) : ∃ x : List TShoal, vs = [(V.sl (recs eTShoal (x)) (x).length)] ∧ kLTShoal (x) := by
  unfold Typ at h
  simp only [Try.underlying23] at h
  obtain ⟨ls, rfl, h1, h2⟩ := h
  obtain ⟨l, h3, h4, h5⟩ := typ_list (enc := eTShoal) (fun vs hv => typ_TShoal_107 (n := n) hv) ls h1
  refine ⟨l, by rw [h3, h4], ?_, h5⟩
  have hb : Try.prog.bytesOf 107 = 48 := by kernel_rfl
  rw [hb, h4] at h2
  have : reachBytes = 140737488351232 := rfl
  omega
def kTRiver (x : TRiver) : Prop := kLTReach (x.Reaches) ∧ kLTShoal (x.Shoals)
theorem typ_TRiver_25 {n : Nat} {vs : List V} (h : Typ Try.prog (n + 6) 25 vs) : ∃ x : TRiver, vs = eTRiver x ∧ kTRiver x := by
  unfold Typ at h
  simp only [Try.underlying25] at h
  obtain ⟨ls, rfl, h⟩ := h
  obtain ⟨v0, v1, rfl, h0, h1⟩ := all2_2 h
  obtain ⟨x0, rfl, k0⟩ := typ_LTReach_22 (n := n + 0) h0
  obtain ⟨x1, rfl, k1⟩ := typ_LTShoal_23 (n := n + 1) h1
  exact ⟨⟨x0, x1⟩, rfl, k0, k1⟩
def kLTBounds (l : List TBounds) : Prop := l.length ≤ 140737488355328 ∧ ∀ x ∈ l, kTBounds (x)
theorem typ_LTBounds_52 {n : Nat} {vs : List V} (h : Typ Try.prog (n + 3) 52 vs) : ∃ x : List TBounds, vs = [(V.sl (recs eTBounds (x)) (x).length)] ∧ kLTBounds (x) := by
  unfold Typ at h
  simp only [Try.underlying52] at h
  obtain ⟨ls, rfl, h1, h2⟩ := h
  obtain ⟨l, h3, h4, h5⟩ := typ_list (enc := eTBounds) (fun vs hv => typ_TBounds_28 (n := n) hv) ls h1
  refine ⟨l, by rw [h3, h4], ?_, h5⟩
  have hb : Try.prog.bytesOf 28 = 16 := by kernel_rfl
  rw [hb, h4] at h2
  have : reachBytes = 140737488351232 := rfl
  omega
def kLLTBounds (l : List (List TBounds)) : Prop := l.length ≤ 140737488355328 ∧ ∀ x ∈ l, kLTBounds (x)
theorem typ_LLTBounds_26 {n : Nat} {vs : List V} (h : Typ Try.prog (n + 4) 26 vs) : ∃ x : List (List TBounds), vs = [(V.sl (recs (eS eTBounds) (x)) (x).length)] ∧ kLLTBounds (x) := by
  unfold Typ at h
  simp only [Try.underlying26] at h
  obtain ⟨ls, rfl, h1, h2⟩ := h
  obtain ⟨l, h3, h4, h5⟩ := typ_list (enc := (eS eTBounds)) (fun vs hv => typ_LTBounds_52 (n := n) hv) ls h1
  refine ⟨l, by rw [h3, h4], ?_, h5⟩
  have hb : Try.prog.bytesOf 52 = 24 := by kernel_rfl
  rw [hb, h4] at h2
  have : reachBytes = 140737488351232 := rfl
  omega
def kTRun (x : TRun) : Prop := kIi64 (x.From) ∧ kIi64 (x.To) ∧ kTBounds (x.Speed) ∧ kTBounds (x.Wait)
theorem typ_TRun_42 {n : Nat} {vs : List V} (h : Typ Try.prog (n + 3) 42 vs) : ∃ x : TRun, vs = eTRun x ∧ kTRun x := by
  unfold Typ at h
  simp only [Try.underlying42] at h
  obtain ⟨ls, rfl, h⟩ := h
  obtain ⟨v0, v1, v2, v3, rfl, h0, h1, h2, h3⟩ := all2_4 h
  obtain ⟨x0, rfl, k0⟩ := typ_Ii64_3 (n := n + 1) h0
  obtain ⟨x1, rfl, k1⟩ := typ_Ii64_3 (n := n + 1) h1
  obtain ⟨x2, rfl, k2⟩ := typ_TBounds_28 (n := n + 0) h2
  obtain ⟨x3, rfl, k3⟩ := typ_TBounds_28 (n := n + 0) h3
  exact ⟨⟨x0, x1, x2, x3⟩, rfl, k0, k1, k2, k3⟩
def kLTRun (l : List TRun) : Prop := l.length ≤ 140737488355328 ∧ ∀ x ∈ l, kTRun (x)
theorem typ_LTRun_29 {n : Nat} {vs : List V} (h : Typ Try.prog (n + 4) 29 vs) : ∃ x : List TRun, vs = [(V.sl (recs eTRun (x)) (x).length)] ∧ kLTRun (x) := by
  unfold Typ at h
  simp only [Try.underlying29] at h
  obtain ⟨ls, rfl, h1, h2⟩ := h
  obtain ⟨l, h3, h4, h5⟩ := typ_list (enc := eTRun) (fun vs hv => typ_TRun_42 (n := n) hv) ls h1
  refine ⟨l, by rw [h3, h4], ?_, h5⟩
  have hb : Try.prog.bytesOf 42 = 48 := by kernel_rfl
  rw [hb, h4] at h2
  have : reachBytes = 140737488351232 := rfl
  omega
def kTVoyage (x : TVoyage) : Prop := kTBounds (x.Start) ∧ kLTRun (x.Runs) ∧ kIi64 (x.Length) ∧ kIi64 (x.Width)
theorem typ_TVoyage_31 {n : Nat} {vs : List V} (h : Typ Try.prog (n + 5) 31 vs) : ∃ x : TVoyage, vs = eTVoyage x ∧ kTVoyage x := by
  unfold Typ at h
  simp only [Try.underlying31] at h
  obtain ⟨ls, rfl, h⟩ := h
  obtain ⟨v0, v1, v2, v3, rfl, h0, h1, h2, h3⟩ := all2_4 h
  obtain ⟨x0, rfl, k0⟩ := typ_TBounds_28 (n := n + 2) h0
  obtain ⟨x1, rfl, k1⟩ := typ_LTRun_29 (n := n + 0) h1
  obtain ⟨x2, rfl, k2⟩ := typ_Ii64_3 (n := n + 3) h2
  obtain ⟨x3, rfl, k3⟩ := typ_Ii64_3 (n := n + 3) h3
  exact ⟨⟨x0, x1, x2, x3⟩, rfl, k0, k1, k2, k3⟩
def kIu16 (i : Int) : Prop := IntKind.u16.min ≤ i ∧ i ≤ IntKind.u16.max
theorem typ_Iu16_47 {n : Nat} {vs : List V} (h : Typ Try.prog (n + 1) 47 vs) : ∃ x : Int, vs = [(V.v (.int .u16 (x)))] ∧ kIu16 (x) := by
  simp only [Typ, Try.underlying47] at h
  obtain ⟨i, rfl, hw⟩ := h
  refine ⟨i, rfl, ?_⟩
  simp only [Lit.wf, Bool.and_eq_true, decide_eq_true_eq] at hw
  exact hw
def kLIu16 (l : List Int) : Prop := l.length ≤ 140737488355328 ∧ ∀ x ∈ l, kIu16 (x)
theorem typ_LIu16_32 {n : Nat} {vs : List V} (h : Typ Try.prog (n + 2) 32 vs) : ∃ x : List Int, vs = [(V.sl (recs (eI .u16) (x)) (x).length)] ∧ kLIu16 (x) := by
  unfold Typ at h
  simp only [Try.underlying32] at h
  obtain ⟨ls, rfl, h1, h2⟩ := h
  obtain ⟨l, h3, h4, h5⟩ := typ_list (enc := (eI .u16)) (fun vs hv => typ_Iu16_47 (n := n) hv) ls h1
  refine ⟨l, by rw [h3, h4], ?_, h5⟩
  have hb : Try.prog.bytesOf 47 = 2 := by kernel_rfl
  rw [hb, h4] at h2
  have : reachBytes = 140737488351232 := rfl
  omega
def kIu8 (i : Int) : Prop := IntKind.u8.min ≤ i ∧ i ≤ IntKind.u8.max
theorem typ_Iu8_5 {n : Nat} {vs : List V} (h : Typ Try.prog (n + 1) 5 vs) : ∃ x : Int, vs = [(V.v (.int .u8 (x)))] ∧ kIu8 (x) := by
  simp only [Typ, Try.underlying5] at h
  obtain ⟨i, rfl, hw⟩ := h
  refine ⟨i, rfl, ?_⟩
  simp only [Lit.wf, Bool.and_eq_true, decide_eq_true_eq] at hw
  exact hw
def kLIu8 (l : List Int) : Prop := l.length ≤ 140737488355328 ∧ ∀ x ∈ l, kIu8 (x)
theorem typ_LIu8_33 {n : Nat} {vs : List V} (h : Typ Try.prog (n + 2) 33 vs) : ∃ x : List Int, vs = [(V.sl (recs (eI .u8) (x)) (x).length)] ∧ kLIu8 (x) := by
  unfold Typ at h
  simp only [Try.underlying33] at h
  obtain ⟨ls, rfl, h1, h2⟩ := h
  obtain ⟨l, h3, h4, h5⟩ := typ_list (enc := (eI .u8)) (fun vs hv => typ_Iu8_5 (n := n) hv) ls h1
  refine ⟨l, by rw [h3, h4], ?_, h5⟩
  have hb : Try.prog.bytesOf 5 = 1 := by kernel_rfl
  rw [hb, h4] at h2
  have : reachBytes = 140737488351232 := rfl
  omega
def kTthalwegtop_HaulTrip (x : Tthalwegtop_HaulTrip) : Prop := kTVoyage (x.Voyage) ∧ kLIu16 (x.Places) ∧ kLIu8 (x.By)
theorem typ_Tthalwegtop_HaulTrip_35 {n : Nat} {vs : List V} (h : Typ Try.prog (n + 6) 35 vs) : ∃ x : Tthalwegtop_HaulTrip, vs = eTthalwegtop_HaulTrip x ∧ kTthalwegtop_HaulTrip x := by
  unfold Typ at h
  simp only [Try.underlying35] at h
  obtain ⟨ls, rfl, h⟩ := h
  obtain ⟨v0, v1, v2, rfl, h0, h1, h2⟩ := all2_3 h
  obtain ⟨x0, rfl, k0⟩ := typ_TVoyage_31 (n := n + 0) h0
  obtain ⟨x1, rfl, k1⟩ := typ_LIu16_32 (n := n + 3) h1
  obtain ⟨x2, rfl, k2⟩ := typ_LIu8_33 (n := n + 3) h2
  exact ⟨⟨x0, x1, x2⟩, rfl, k0, k1, k2⟩
end Go.Ev
/- Tests that are decided by other tests. -/
namespace Go.Ev
theorem eqT_ne {α : Type} [BEq α] {a b : α} (h : (a == b) = true) : (a != b) = false := by rw [bne, h]; rfl
theorem eqF_ne {α : Type} [BEq α] {a b : α} (h : (a == b) = false) : (a != b) = true := by rw [bne, h]; rfl
theorem neT_eq {α : Type} [BEq α] {a b : α} (h : (a != b) = true) : (a == b) = false := by
  unfold bne at h; cases e : (a == b) with
  | true => rw [e] at h; cases h
  | false => rfl
theorem neF_eq {α : Type} [BEq α] {a b : α} (h : (a != b) = false) : (a == b) = true := by
  unfold bne at h; cases e : (a == b) with
  | true => rfl
  | false => rw [e] at h; cases h
end Go.Ev
