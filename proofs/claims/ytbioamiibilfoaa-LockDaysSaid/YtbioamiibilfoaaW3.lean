/- A part of the proof of LockDays. -/
import Derived.MapKept
import Derived.Orders
import Derived.Test.YtbioamiibilfoaaW2
/- The evaluator's runs are the model's: functions, rounds. -/
set_option linter.unusedVariables false
set_option linter.unusedSimpArgs false
namespace Go.Ev
open Go.RowKit

section
variable {P : Program} {H : XH} {X : FuncId → Option (List V → Option V)}

/-- The marks are come to. -/
theorem leaves_ok {fn : Func} {tmps : Array Value} {R : Ending → World → Prop} {O : Nat → Prop} {w0 : World} {F0 : FZ} {M0 : MP} {D0 : List Deferred} {U : Nat → Prop} {F : FZ} {m : MP} {sz : Nat} {tm : TM} {a : Act} :
    ∀ (ds : List Nat) (D : List Deferred) (st st1 : ST) (w : World), xmarks ds st = some st1 → Rel O w0 F0 M0 D0 U F m sz tm st a w → MarksR m ds D →
      (∀ w1, Rel O w0 F0 M0 D0 U F m sz tm st1 a w1 → ∃ v, (results fn tmps).run P w1 = .ok v w1 ∧ R (.returned v) w1) → LeavesInM Fence.wide 0 P fn tmps R D .returning w
  | [], [], st, st1, w, hx, h, _, hq => by cases hx; exact hq w h
  | [], _ :: _, _, _, _, _, _, hM, _ => hM.elim
  | _ :: _, [], _, _, _, _, _, hM, _ => hM.elim
  | b :: ds, d :: D, st, st1, w, hx, h, ⟨⟨g, c, hb, hd⟩, hM⟩, hq => by
    simp only [xmarks] at hx
    split at hx
    · next hl =>
      obtain ⟨g', c', q1, q2, q3, q4⟩ := h.hst b _ hl
      rw [hb] at q1; cases q1
      have h2 := h.putO (x1 := .mark false) hl (by simp) (by simp) hb q2 q4 (o := .deferred none) (fun _ hnew => ⟨_, _, hb, q2, hnew, q4⟩)
      refine ⟨by simp, .inl ⟨g, _, by rw [hd], run_takeDeferred q3, leaves_ok ds D _ st1 _ hx h2 hM hq⟩⟩
    · cases hx

theorem xres_ok {fn : Func} {O : Nat → Prop} {w0 : World} {F0 : FZ} {M0 : MP} {D : List Deferred} {U : Nat → Prop} {F : FZ} {m : MP} {sz : Nat} {tm : TM} {st st' : ST} {a : Act} {w : World} {r : V}
    (h : Rel O w0 F0 M0 D U F m sz tm st a w) (hx : xres P fn tm st = some (r, st')) : ∃ v F', (results fn a.tmps).run P w = .ok v w ∧ Rel O w0 F0 M0 D U F' m sz tm st' a w ∧ RV m F' w.heap r v := by
  unfold xres at hx
  split at hx
  · next t ht =>
    cases hx
    refine ⟨_, F, results_eq fn a.tmps w [a.tmps.getD t undef] (by rw [ht]; simp [List.mapM_cons, resOne]), h, ?_⟩
    exact h.htm t
  · next p t ht =>
    have hg : (opR P (fun _ => none) 0 (ev tm) (.load t (.tmp p))).go st (fun v s => v = r ∧ s = st') := RM.x_go _ _ _ _ hx ⟨rfl, rfl⟩
    obtain ⟨F0', st0, c0, v0, h0, e0, hrun, hv0, hc, hs⟩ := load_sound (P := P) (C := fun _ => none) h hg
    subst hc hs
    have hld : (resOne a.tmps (.cell p t)).run P w = .ok v0 w := by
      have e : a.eval (.tmp p) = a.tmps.getD p undef := rfl
      rw [e] at hrun
      simp only [resOne]
      cases hp : a.tmps.getD p undef with
      | pointer q =>
        rw [hp] at hrun
        cases q with
        | some q => simpa [asAddr, Instr.loadAt, Instr.sureAddr] using hrun
        | none => simp [Instr.loadAt, Instr.sureAddr, Result.andThen] at hrun
      | _ => rw [hp] at hrun; simp [Instr.loadAt, Instr.sureAddr, Result.andThen] at hrun
    exact ⟨_, F0', results_eq fn a.tmps w [v0] (by rw [ht]; simp [List.mapM_cons, hld]), h0, hv0⟩
  · have hg : (resR P tm fn.results.toList []).go st (fun v s => v = r ∧ s = st') := RM.x_go _ _ _ _ hx ⟨rfl, rfl⟩
    obtain ⟨F1, st1, vs1, c1, r1, r2, r3, r4, r5⟩ := resR_sound fn.results.toList [] [] F st h hg rfl (by simp)
    subst r4 r5
    exact ⟨_, F1, results_eq fn a.tmps w vs1 r2, r1, RV.of_RC r3⟩

theorem xfn_ok (hH : HOK P H) (hX : CtxOK P (ctxX X)) (hmix : P.follows .mixedOrders = true) {g : FuncId} {fn : Func} {c : Code} (hf : P.funcs[g]? = some fn) (hb : fn.body = some c) {fuel : Nat} {args : List V} {st : ST} {top : Nat} {r : V} {st' : ST} {top' : Nat}
    (hx : xfn P H X fuel fn c args st top = some (r, st', top')) : FnOK P g args st top r st' top' := by
  intro O F m w vs h hv
  unfold xfn at hx
  split at hx
  · cases hx
  · next hle =>
    have hlen : args.length ≤ fn.ntmps := Nat.le_of_ble_eq_true hle
    split at hx
    · cases hx
    · cases hx
    · next e s hne hc =>
      split at hx
      · cases hx
      · next st1 hm =>
        split at hx
        · cases hx
        · next r1 st2 hr =>
          rw [kV0_eq] at hx
          cases hx
          refine callsIn_wide.1 (callsIn_of_wp_marks (n := 0) hf hb trivial ?_)
          have hR0 : Rel O w F m [] (fun b => top ≤ b) F m fn.ntmps (startT args) st { tmps := vs.toArray ++ Array.replicate (fn.ntmps - vs.toArray.size) undef, defers := [] } w := by
            refine h.act (fun i => ?_) (by have := hv.1; simp; omega) rfl
            have e : look (startT args) i = args[i]? := by
              unfold startT
              rw [List.range_eq_range', look_start args 0 i]
              simp
            rw [e]
            cases hi : args[i]? with
            | none => exact trivial
            | some c =>
              have hl := hv.1
              have hil : i < args.length := (List.getElem?_eq_some_iff.1 hi).1
              have hx : vs[i]? = some (vs[i]'(by omega)) := List.getElem?_eq_getElem (by omega)
              have := hv.2 i c _ hi hx
              simp only [Option.getD_some]
              have e2 : (vs.toArray ++ Array.replicate (fn.ntmps - vs.toArray.size) undef).getD i undef = vs[i]'(by omega) := by
                rw [Array.getD_eq_getD_getElem?, Array.getElem?_append_left (by simp; omega)]
                simp [hx]
              rw [e2]
              exact this
          have hR := hR0.sent
          refine xcode_sound hH hX hmix wide_wide c ⟨startT args, [], (top, .dead) :: st, top + 1, top⟩ e s hc O _ w F F m m [] _ w hR trivial rfl fun a' w' F' m' D' r1' r2' r3' => ?_
          have fin : LeavesInM Fence.wide 0 P fn a'.tmps (After O w F m (sweep top r st2) s.nx r) a'.defers .returning w' := by
            rw [r1'.hde]
            refine leaves_ok s.ds D' s.st st1 w' hm r1' r3' fun w1 hR1 => ?_
            obtain ⟨v, F2, hrun, hR2, hv2⟩ := xres_ok hR1 hr
            exact ⟨v, hrun, v, F2, m', rfl, (hR2.sweep _ _).heap, hv2⟩
          cases e with
          | normal => exact fin
          | ret => exact fin
          | exit i => exact absurd rfl (hne i)

theorem foldl_put {m : MP} {F : FZ} {Hp : Array Obj} {sz : Nat} : ∀ (l : List (Tmp × V)) (vs : List (Tmp × Value)) (tm : TM) (tmps : Array Value), l.length = vs.length → (∀ (i : Nat) (p : Tmp × V) (q : Tmp × Value), l[i]? = some p → vs[i]? = some q → p.1 = q.1 ∧ p.1 < sz ∧ RV m F Hp p.2 q.2) →
    tmps.size = sz → (∀ i, RV m F Hp ((look tm i).getD .top) (tmps.getD i undef)) →
    (vs.foldl (fun t p => t.setIfInBounds p.1 p.2) tmps).size = sz ∧ ∀ i, RV m F Hp ((look (l.foldl (fun t p => p :: t) tm) i).getD .top) ((vs.foldl (fun t p => t.setIfInBounds p.1 p.2) tmps).getD i undef)
  | [], [], tm, tmps, _, _, hs, ht => ⟨hs, ht⟩
  | [], _ :: _, _, _, hl, _, _, _ => by simp at hl
  | _ :: _, [], _, _, hl, _, _, _ => by simp at hl
  | p :: l, q :: vs, tm, tmps, hl, hp, hs, ht => by
    obtain ⟨h1, h2, h3⟩ := hp 0 p q rfl rfl
    obtain ⟨p1, p2⟩ := p
    obtain ⟨q1, q2⟩ := q
    simp only at h1 h2 h3
    subst h1
    refine foldl_put l vs ((p1, p2) :: tm) (tmps.setIfInBounds p1 q2) (by simpa using hl) (fun i p q e1 e2 => hp (i + 1) p q (by simpa using e1) (by simpa using e2)) (by simpa using hs) fun i => ?_
    rw [look_cons]
    by_cases e : p1 = i
    · subst e
      have : (tmps.setIfInBounds p1 q2).getD p1 undef = q2 := by simp [Array.getD_eq_getD_getElem?, hs, h2]
      rw [this, if_pos rfl]
      exact h3
    · rw [if_neg e]
      have := ht i
      simpa [Array.getD_eq_getD_getElem?, Array.getElem?_setIfInBounds, e] using this

theorem wide_round {FF : Fence} (hW : Wide FF) (l : Nat) : Wide (FF.inRound l) := ⟨hW.fn, hW.dep, hW.al⟩

theorem isReady_eq {s : LoopState} (h : isReady s = true) : s = .ready := by cases s <;> first | rfl | cases h

theorem xround_ok (hH : HOK P H) (hX : CtxOK P (ctxX X)) (hmix : P.follows .mixedOrders = true) {fuel b : Nat} {args : List V} {st : ST} {top : Nat} {r : V} {st' : ST} {top' : Nat}
    (hx : xround P H X fuel b args st top = some (r, st', top')) : YldOK P b args st top r st' top' := by
  intro O F m w vs h hv g c hm
  unfold xround at hx
  split at hx
  · next r0 hl0 =>
    split at hx
    · next hrd =>
      split at hx
      · cases hx
      · next hlen =>
        rw [Bool.and_eq_true] at hlen
        have hn : args.length = r0.ps.size := Nat.eq_of_beq_eq_true hlen.1
        obtain ⟨g', c', lp, q1, q2, q3, q4, q5, q6, q7, q8, q9, q10, q11⟩ := h.hst b _ hl0
        rw [hm] at q1; cases q1
        have hvs : vs.length = lp.params.size := by rw [q7, ← hn, hv.1]
        have hy := run_yield (P := P) (args := vs.toArray) q3 (by simpa using hvs)
        refine ⟨_, _, _, _, hy, fun FF hW => ?_⟩
        split at hx
        · next s1 hassign =>
          split at hx
          · next r1 hl1 =>
            split at hx
            · next hrd1 =>
              split at hx
              · cases hx
              · next e s2 hbody =>
                split at hx
                · next r2 hl2 =>
                  have hfold : (lp.params.zip vs.toArray).foldl (fun tmps (t, a) => tmps.setIfInBounds t a) lp.tmps = (r0.ps.toList.zip vs).foldl (fun t p => t.setIfInBounds p.1 p.2) lp.tmps := by
                    rw [q7, ← Array.foldl_toList, Array.toList_zip]
                  have hput := foldl_put (m := m) (F := F) (Hp := w.heap) (sz := r0.sz) (r0.ps.toList.zip args) (r0.ps.toList.zip vs) r0.tm lp.tmps (by simp [hv.1]) (by
                    intro i p q e1 e2
                    rw [List.getElem?_zip_eq_some] at e1 e2
                    have : p.1 = q.1 := by have := e1.1.symm.trans e2.1; simpa using this
                    refine ⟨this, ?_, hv.2 i _ _ e1.2 e2.2⟩
                    have := List.all_eq_true.1 hlen.2 p.1 (List.mem_of_getElem? e1.1)
                    exact Nat.le_of_ble_eq_true this) q10 q11
                  refine roundIn_of_wpIn (hW.fn _) ?_
                  rw [hfold]
                  have hR0 : Rel O w F m [] (fun b => top ≤ b) F m r0.sz ((r0.ps.toList.zip args).foldl (fun t p => p :: t) r0.tm) st { tmps := (r0.ps.toList.zip vs).foldl (fun t p => t.setIfInBounds p.1 p.2) lp.tmps, defers := [] } w :=
                    h.act hput.2 hput.1 rfl
                  have hR := hR0.sent
                  have hrdok : RdOK m (FF.inRound g) (some b) := ⟨g, c, rfl, hm⟩
                  rw [q8]
                  refine xcode_sound hH hX hmix (wide_round hW g) r0.assign _ _ s1 hassign O _ w F F m m [] _ w hR trivial hrdok fun a1 w1 F1 m1 D1 z1 z2 z3 => ?_
                  -- the body
                  have hm1 := z2 _ _ hm
                  obtain ⟨g1, c1, lp1, y1, y2, y3, y4, y5, y6, y7, y8, y9, y10, y11⟩ := z1.hst b _ hl1
                  rw [hm1] at y1; cases y1
                  have hB := z1.putO (x1 := .loop { r1 with state := .busy }) hl1 (by simp) (by simp) hm1 y2 y4 (o := .loop { lp1 with state := .busy }) (fun hkk hnew =>
                    ⟨_, _, _, hm1, y2, hnew, y4, rfl, y6, y7, y8, y9, y10, fun i => (y11 i).mono (fun _ _ e => e) (fun _ _ e => e) hkk⟩)
                  refine ⟨_, run_beginRound y3 (by rw [y5]; exact isReady_eq hrd1), ?_⟩
                  rw [q9]
                  refine xcode_sound hH hX hmix (wide_round hW g) r0.body ⟨s1.tm, s1.ds, _, s1.nx, s1.b0⟩ e s2 hbody O _ w F F1 m m1 D1 _ _ hB z3 (hrdok.mono z2) fun a2 w2 F2 m2 D2 x1 x2 x3 => ?_
                  have hm2 := x2 _ _ hm1
                  obtain ⟨g2, c2, lp2, u1, u2, u3, u4, u5, u6, u7, u8, u9, u10, u11⟩ := x1.hst b _ hl2
                  rw [hm2] at u1; cases u1
                  have fin : ∀ (j : Option Code) (ls : LoopState), ls = (if j.isNone then .ready else .done) → Rel O w F m D2 (fun b => s2.nx ≤ b) F2 m2 r0.sz s2.tm ((b, .loop { r2 with state := ls, pending := j }) :: s2.st) a2 (w2.putObj g (.loop { lp2 with state := (if j.isNone then .ready else .done), pending := j })) := by
                    intro j ls hls
                    subst hls
                    exact x1.putO hl2 (by simp) (by simp) hm2 u2 u4 (fun hkk hnew =>
                      ⟨_, _, _, hm2, u2, hnew, u4, rfl, rfl, u7, u8, u9, u10, fun i => (u11 i).mono (fun _ _ e => e) (fun _ _ e => e) hkk⟩)
                  cases e with
                  | normal =>
                    cases hx
                    exact ⟨_, _, run_endRound none u3, _, F2, m2, rfl, ((fin none .ready rfl).sweep _ _).heap, rfl⟩
                  | exit i =>
                    cases hx
                    exact ⟨_, _, run_endRound (some (.exit i)) u3, _, F2, m2, rfl, ((fin (some (.exit i)) .done rfl).sweep _ _).heap, rfl⟩
                  | ret =>
                    cases hx
                    exact ⟨_, _, run_endRound (some .ret) u3, _, F2, m2, rfl, ((fin (some .ret) .done rfl).sweep _ _).heap, rfl⟩
                · cases hx
            · cases hx
          · cases hx
        · cases hx
    · cases hx
  · cases hx
end

section
variable {P : Program} {G : XG}

theorem soundV_x {H : XH} (hH : HOK P H) (g : FuncId) : SoundV P g (conX (xpure P H g)) := by
  rintro ⟨args, r⟩ F w vs hF hv hok
  have hok : xpure P H g args = some r := hok
  unfold xpure at hok
  split at hok
  · next r1 st nx h1 =>
    obtain ⟨_, hfn⟩ := hH _ _ _ _ _ _ _ h1
    have hR : RelH (fun k => w.heap.size ≤ k) w F (fun _ => none) 0 F (fun _ => none) [] w :=
      { htm := fun i => trivial, hsz := rfl, hde := rfl, hst := fun b x hx => by simp at hx, inj := fun b b' g c c' _ _ hm => (by cases hm), fresh := fun b _ => ⟨rfl, rfl⟩, pin := fun b y e => (by cases e), keep := Keeps.refl _ _, f0 := fun _ _ e => e, f1 := fun _ _ e => .inl e, f2 := hF, mlt := fun b g c hm => (by cases hm), below := Own.refl _ _, hb := fun _ e => e }
    have hv' : RVl (fun _ => none) F w.heap (args ++ []) vs := by
      rw [List.append_nil]
      have := RCs_iff.1 hv
      exact ⟨this.1, fun i c x hc hx => RV.of_RC (this.2 i c x hc hx).1⟩
    refine (hfn _ F _ w vs hR hv').mono ?_
    rintro e w' ⟨v, F', m', rfl, hR', hr⟩
    cases hz : (fz 4 r1 .ret).x st with
    | none => rw [hz] at hok; cases hok
    | some z =>
      obtain ⟨c, st2⟩ := z
      rw [hz] at hok
      cases hok
      obtain ⟨F1, st1, c1, k1, k2, k3, k4, _⟩ := fz_sound 4 r1 v .ret st F' (fun c' s => c' = c) hR' hr (RM.x_go _ _ _ _ hz rfl)
      have k4 : c1 = c := k4
      subst k4
      exact ⟨v, F1, rfl, k1.below.below, k1.f0, k1.f1, k1.f2, k3⟩
  · cases hok

/-- The functions that are followed are the program's. -/
def GOK (P : Program) (G : XG) : Prop := ∀ g fn, G g = some fn → P.funcs[g]? = some fn ∧ EntersOK P g

theorem ctx_x (hG : GOK P G) {H : XH} (hH : HOK P H) : CtxOK P (ctxX (xpures P G H)) := by
  intro g c hc
  unfold ctxX xpures at hc
  cases hg : G g with
  | none => simp [hg] at hc
  | some fn =>
    simp [hg] at hc
    subst hc
    exact ⟨soundV_x hH g, (hG g fn hg).2⟩

theorem xcall_ok (hG : GOK P G) (hmix : P.follows .mixedOrders = true) (fuel : Nat) : ∀ n, HOK P (xcall P G fuel n)
  | 0 => fun c avs st top r st' top' h => by cases h
  | n + 1 => by
    intro c avs st top r st' top' h
    have ih := xcall_ok hG hmix fuel n
    simp only [xcall] at h
    split at h
    · next g caps =>
      split at h
      · next fn hg =>
        split at h
        · next code hb =>
          exact ⟨(hG g fn hg).2, xfn_ok ih (ctx_x hG ih) hmix (hG g fn hg).1 hb h⟩
        · cases h
      · cases h
    · next b => exact xround_ok ih (ctx_x hG ih) hmix h
    · cases h

/-- WHAT A RUN OF THE EVALUATOR GIVES IS WHAT THE FUNCTION RETURNS. -/
theorem has_x (hG : GOK P G) (hmix : P.follows .mixedOrders = true) {fuel n : Nat} {f : FuncId} {args : List V} {r : V} (h : xpure P (xcall P G fuel n) f args = some r) (hf : (G f).isSome = true) :
    Has P f { α := Unit, enc := fun _ => args, ok := fun _ => True, res := fun _ => r } := by
  have hH := xcall_ok hG hmix fuel n
  obtain ⟨fn, hfn⟩ := Option.isSome_iff_exists.1 hf
  refine ⟨?_, (hG f fn hfn).2⟩
  show SoundV P f _
  intro x F w vs hF hv _
  exact soundV_x hH f (args, r) F w vs hF hv h

/-- The functions by a list. -/
def xg : List (FuncId × Func) → XG
  | [], _ => none
  | (g, fn) :: l, f => match Nat.beq g f with
    | true => some fn
    | false => xg l f
theorem gok_nil : GOK P (xg []) := fun _ _ h => by cases h
theorem gok_cons {g : FuncId} {fn : Func} {l : List (FuncId × Func)} (hf : P.funcs[g]? = some fn) (hn : (fn.name == "runtime.NumGoroutine") = false) (hb : fn.body.isNone = false) (k : GOK P (xg l)) : GOK P (xg ((g, fn) :: l)) := by
  intro f fn' h
  simp only [xg] at h
  split at h
  · next e => have := Nat.eq_of_beq_eq_true e; subst this; cases h; exact ⟨hf, enters_ok hf hn hb⟩
  · exact k f fn' h
end
end Go.Ev
/- The evaluator over what is not known, in which calls may be followed inline; ranges over functions. -/
set_option linter.unusedVariables false
namespace Go.Ev
open Go.RowKit
noncomputable section

/-- A call that is followed: what is called, its arguments, the boxes, the first new number; what is asked of its result. -/
abbrev WH := V → List V → ST → Nat → (V → ST → Nat → Prop) → Prop

/-- A box that a renaming leaves as it is. -/
def fixX (r : List (Nat × Nat)) : Bx → Prop
  | .loop lp => lp.tm.map (fun p => renV r p.2) = lp.tm.map fun p => some p.2
  | .mark _ => True
  | _ => False

def SubW (r : List (Nat × Nat)) : ST → ST → Prop
  | [], _ => True
  | (b, x) :: l, st => ((∃ b' y, look r b = some b' ∧ renX r x = some y ∧ look st b' = some y) ∨ (decide (look r b = none) && virtB x) = true ∨ (∃ b' cs' cs f, x = .var cs' f ∧ look r b = some b' ∧ look st b' = some (.var cs f) ∧ SubC r cs' cs) ∨
      (look r b = some b ∧ look st b = some x ∧ fixX r x)) ∧ SubW r l st

/-- The state (tm', st', nx') says no more than (tm, st), its boxes renamed; those below pins, the marks and the record of the round are not renamed. -/
def SubF (pins : Nat) (ds : List Nat) (rd : Option Nat) (r : List (Nat × Nat)) (tm' : TM) (st' : ST) (nx' : Nat) (tm : TM) (st : ST) : Prop :=
  SubT r tm' tm ∧ SubW r st' st ∧ ((r.all (fun p => decide (p.1 < nx'))) && st'.all (fun p => decide (p.1 < nx'))) = true ∧ (decide (r.map (·.2)).Nodup && (List.range pins).all fun i => decide (look r i = some i)) = true ∧
    (ds.all fun i => decide (look r i = some i)) = true ∧ (rd.toList.all fun i => decide (look r i = some i)) = true

section
variable (P : Program) (C : FuncId → Option Con) (H : WH)

def wop (top : Nat) (tm : TM) (st : ST) (op : Op) (K : V → ST → Nat → Prop) : Prop := match op with
  | .call c => match c.callee with
    | .value f => match ev tm f with
      | .fn g caps => match C g with
        | some _ => (opR P C top (ev tm) (.call c)).go st fun v st' => K v st' (top + 1)
        | none => H (.fn g caps) (c.args.toList.map (ev tm)) st top K
      | .yld b => H (.yld b) (c.args.toList.map (ev tm)) st top K
      | _ => False
    | _ => (opA P top (ev tm) (.call c)).go st fun v st' => K v st' (top + 1)
  | op => (opA P top (ev tm) op).go st fun v st' => K v st' (top + 1)

def wops (sz : Nat) (all : List Oper) : List Oper → Nat → TM → ST → (TM → ST → Nat → Prop) → Prop
  | [], top, tm, st, K => K tm st top
  | o :: os, top, tm, st, K => match okDst sz o.dst with
    | false => False
    | true => match o.guard with
      | none => wop P C H top tm st o.op fun v st' top' => wops sz all os top' (putT tm o.dst v) st' K
      | some (j, want) => match (all[j]?).bind (·.dst) with
        | none => False
        | some d => match (look tm d).getD .top with
          | .v (.bool b) => match want with
            | true => br b (wop P C H top tm st o.op fun v st' top' => wops sz all os top' (putT tm o.dst v) st' K) (wops sz all os (top + 1) (putT tm o.dst vU) st K)
            | false => br b (wops sz all os (top + 1) (putT tm o.dst vU) st K) (wop P C H top tm st o.op fun v st' top' => wops sz all os top' (putT tm o.dst v) st' K)
          | .v (.tuple _) => wops sz all os (top + 1) (putT tm o.dst vU) st K
          | _ => False

/-- rd: in a round of this range over a function. -/
def wcode (sz pins : Nat) (rd : Option Nat) : Code → (AX → XS → Prop) → XS → Prop
  | .skip, Q, s => Q .normal s
  | .region _ ops false, Q, s => wops P C H sz ops.toList ops.toList s.nx s.tm s.st fun tm st nx => Q .normal ⟨tm, s.ds, st, nx, s.b0⟩
  | .region _ ops true, Q, s => match aheadB ops.toList with
    | true => evOpsD P C sz ops s.nx ops.toList 0 s.tm s.st [] fun tm st => Q .normal ⟨tm, s.ds, st, s.nx + ops.size, s.b0⟩
    | false => False
  | .seq a b, Q, s => wcode sz pins rd a (fun e s' => match e with
    | .normal => wcode sz pins rd b Q s'
    | e => Q e s') s
  | .cond c x y, Q, s => match ev s.tm c with
    | .v (.bool b) => br b (wcode sz pins rd x Q s) (wcode sz pins rd y Q s)
    | _ => False
  | .block id c, Q, s => wcode sz pins rd c (fun e s' => match e with
    | .exit j => match decide (j = id) with
      | true => Q .normal s'
      | false => Q (.exit j) s'
    | e => Q e s') s
  | .loop c, Q, s => ∃ (α : Type) (mk : α → LS) (μ : α → Nat), (∃ x r, SubF pins s.ds rd r (mk x).tm (mk x).st (mk x).nx s.tm s.st) ∧ ∀ x, wcode sz pins rd c (fun e s' => match e with
    | .normal => s'.ds = s.ds ∧ ∃ y r, SubF pins s.ds rd r (mk y).tm (mk y).st (mk y).nx s'.tm s'.st ∧ μ y < μ x
    | e => ∃ n, s'.nx ≤ n ∧ Q e ⟨s'.tm, s'.ds, s'.st, n, s'.b0⟩) ⟨(mk x).tm, s.ds, (mk x).st, (mk x).nx, s.b0⟩
  | .exit id, Q, s => Q (.exit id) s
  | .ret, Q, s => Q .ret s
  | .rangeFunc f ps assign body, Q, s => match xenter rd (.loop ⟨s.tm, sz, ps, assign, body, .ready, none⟩) s with
    | none => False
    | some s1 => match ev s.tm f with
      | .fn g caps => H (.fn g caps) [.yld s.nx] s1.st s1.nx fun _ st2 nx2 => match look st2 s.nx with
        | some (.loop r2) => match isBusy r2.state with
          | true => False
          | false => match r2.pending with
            | none => Q .normal ⟨s.tm, s1.ds, (s.nx, .loop { r2 with state := .exhausted }) :: st2, nx2, s.b0⟩
            | some (.exit i) => Q (.exit i) ⟨s.tm, s1.ds, (s.nx, .loop { r2 with state := .exhausted }) :: st2, nx2, s.b0⟩
            | some .ret => Q .ret ⟨s.tm, s1.ds, (s.nx, .loop { r2 with state := .exhausted }) :: st2, nx2, s.b0⟩
            | _ => False
        | _ => False
      | _ => False
  | _, _, _ => False

/-- The results: one as it is; several made clean. -/
def wres (fn : Func) (tm : TM) (st : ST) (K : V → ST → Prop) : Prop := match fn.results.toList with
  | [.tmp t] => K ((look tm t).getD .top) st
  | [.cell a t] => (opR P (fun _ => none) 0 (ev tm) (.load t (.tmp a))).go st K
  | l => (resR P tm l []).go st K

/-- A function is entered. -/
def wfn (fn : Func) (c : Code) (args : List V) (st : ST) (top : Nat) (K : V → ST → Nat → Prop) : Prop :=
  match Nat.ble args.length fn.ntmps with
  | false => False
  | true => wcode P C H fn.ntmps top none c (fun e s => match e with
    | .exit _ => False
    | _ => match xmarks s.ds s.st with
      | none => False
      | some st1 => wres P fn s.tm st1 fun r st2 => K r st2 s.nx) ⟨startT args, [], st, top, top⟩

/-- A round of a range over a function. -/
def wround (b : Nat) (args : List V) (st : ST) (top : Nat) (K : V → ST → Nat → Prop) : Prop := match look st b with
  | some (.loop r) => match isReady r.state with
    | true => match Nat.beq args.length r.ps.size && r.ps.toList.all fun p => Nat.ble (p + 1) r.sz with
      | false => False
      | true => wcode P C H r.sz top (some b) r.assign (fun e s1 => match e with
        | .normal => match look s1.st b with
          | some (.loop r1) => match isReady r1.state with
            | true => wcode P C H r.sz top (some b) r.body (fun e s2 => match look s2.st b with
              | some (.loop r2) => match e with
                | .normal => K (.v (.bool true)) ((b, .loop { r2 with state := .ready, pending := none }) :: s2.st) s2.nx
                | .exit i => K (.v (.bool false)) ((b, .loop { r2 with state := .done, pending := some (.exit i) }) :: s2.st) s2.nx
                | .ret => K (.v (.bool false)) ((b, .loop { r2 with state := .done, pending := some .ret }) :: s2.st) s2.nx
              | _ => False) ⟨s1.tm, s1.ds, (b, .loop { r1 with state := .busy }) :: s1.st, s1.nx, s1.b0⟩
            | false => False
          | _ => False
        | _ => False) ⟨(r.ps.toList.zip args).foldl (fun t p => p :: t) r.tm, [], st, top, top⟩
    | false => False
  | _ => False
end

/-- Calls, to a depth. -/
def wcall (P : Program) (C : FuncId → Option Con) (G : XG) : Nat → WH
  | 0 => fun _ _ _ _ _ => False
  | n + 1 => fun c avs st top K => match c with
    | .fn g caps => match G g with
      | some fn => match fn.body with
        | some code => wfn P C (wcall P C G n) fn code (avs ++ caps) st top K
        | none => False
      | none => False
    | .yld b => wround P C (wcall P C G n) b avs st top K
    | _ => False
end
end Go.Ev
/- The evaluator with inline calls is the model's: states, operations, regions. -/
set_option linter.unusedVariables false
set_option linter.unusedSimpArgs false
namespace Go.Ev
open Go.RowKit

theorem SubW.mem {r : List (Nat × Nat)} : ∀ {st' st : ST}, SubW r st' st → ∀ p ∈ st', (∃ b y, look r p.1 = some b ∧ renX r p.2 = some y ∧ look st b = some y) ∨ (decide (look r p.1 = none) && virtB p.2) = true ∨ (∃ b' cs' cs f, p.2 = .var cs' f ∧ look r p.1 = some b' ∧ look st b' = some (.var cs f) ∧ SubC r cs' cs) ∨
    (look r p.1 = some p.1 ∧ look st p.1 = some p.2 ∧ fixX r p.2)
  | [], _, _, p, hp => by cases hp
  | (i, v) :: l, tm, ⟨h1, h2⟩, p, hp => by
    rcases List.mem_cons.1 hp with rfl | hp
    · exact h1
    · exact SubW.mem h2 p hp

theorem map_eq_mem {α β : Type} {f g : α → β} : ∀ {l : List α}, l.map f = l.map g → ∀ x ∈ l, f x = g x
  | [], _, x, hx => by cases hx
  | y :: l, h, x, hx => by
    simp only [List.map_cons, List.cons.injEq] at h
    rcases List.mem_cons.1 hx with rfl | hx
    · exact h.1
    · exact map_eq_mem h.2 x hx

/-- A state that says less. -/
theorem Rel.subF {O : Nat → Prop} {w0 : World} {F0 : FZ} {M0 : MP} {D : List Deferred} {U : Nat → Prop} {F : FZ} {m : MP} {sz : Nat} {tm tm' : TM} {st st' : ST} {a : Act} {w : World} {r : List (Nat × Nat)} {nx' pins : Nat} {ds : List Nat} {rd : Option Nat}
    (h : Rel O w0 F0 M0 D U F m sz tm st a w) (hp : ∀ b y, M0 b = some y → b < pins) (hs : SubF pins ds rd r tm' st' nx' tm st) : Rel O w0 F0 M0 D (fun b => nx' ≤ b) F (fun b => (look r b).bind m) sz tm' st' a w := by
  obtain ⟨g1, g2, g3, g4, _⟩ := hs
  have h1 := g1.mem
  have h2 := g2.mem
  rw [Bool.and_eq_true] at g3
  have h3 : ∀ p ∈ r, p.1 < nx' := fun p hp => by simpa using List.all_eq_true.1 g3.1 p hp
  have h3' : ∀ p ∈ st', p.1 < nx' := fun p hp => by simpa using List.all_eq_true.1 g3.2 p hp
  have virt : ∀ {b : Nat} {x : Bx}, (decide (look r b = none) && virtB x) = true → look r b = none ∧ ∃ e size, x = .row e size [] 0 := by
    intro b x h
    rw [Bool.and_eq_true] at h
    refine ⟨of_decide_eq_true h.1, ?_⟩
    have h2 := h.2
    unfold virtB at h2
    split at h2
    · exact ⟨_, _, rfl⟩
    · cases h2
  rw [Bool.and_eq_true] at g4
  have h4 : (r.map (·.2)).Nodup := of_decide_eq_true g4.1
  have h5 : ∀ i, i < pins → look r i = some i := fun i hi => of_decide_eq_true (List.all_eq_true.1 g4.2 i (List.mem_range.2 hi))
  have hal : ∀ b, aliveB st' b → look r b ≠ none → ∃ b', look r b = some b' ∧ aliveB st b' := by
    rintro b ⟨x, hx, hd⟩ hnn
    obtain ⟨b', y, e1, e2, e3⟩ | hv | ⟨b', cs', cs, f, ex, e1, e3, hc⟩ | ⟨e1, e3, hfx⟩ := h2 _ (look_mem hx)
    rotate_left
    · exact absurd (virt hv).1 hnn
    · exact ⟨b', e1, _, e3, fun h => by cases h⟩
    · exact ⟨b, e1, _, e3, hd⟩
    refine ⟨b', e1, y, e3, ?_⟩
    rintro rfl
    simp only at e2
    cases x with
    | var cs f =>
      simp only [renX, Option.map_eq_some_iff] at e2
      obtain ⟨_, _, e4⟩ := e2
      cases e4
    | row e size cs p => cases e2
    | loop r => cases e2
    | mark p => cases e2
    | dead => exact hd rfl
  refine { htm := ?_, hsz := h.hsz, hde := h.hde, hst := ?_, inj := ?_, fresh := ?_, pin := fun b y e => by rw [h5 b (hp b y e)]; exact h.pin b y e, keep := h.keep, f0 := h.f0, f1 := h.f1, f2 := h.f2, mlt := ?_, below := h.below, hb := h.hb }
  · intro i
    cases hl : look tm' i with
    | none => exact trivial
    | some v =>
      simp only [Option.getD_some]
      rcases h1 _ (look_mem hl) with h1 | h1
      · exact renV_RV h1 (h.htm i)
      · have ht := h.htm i
        generalize (look tm i).getD .top = c at h1 ht
        simp only at h1
        unfold nilB at h1
        split at h1
        · exact .inr ⟨rfl, ht⟩
        · cases h1
  · intro b x hx
    obtain ⟨b', y, e1, e2, e3⟩ | hv | ⟨b', cs, cs', f, ex, e1, e3, hc⟩ | ⟨e1, e3, hfx⟩ := h2 _ (look_mem hx)
    rotate_left
    · obtain ⟨hr, e, size, rfl⟩ := virt hv
      simp only at hr
      exact .inr ⟨by simp [hr], rfl, rfl⟩
    · simp only at ex e1
      subst ex
      obtain ⟨g, c, arr, ty, q1, q2, q3, q4, q5, q6⟩ := h.hst b' _ e3
      obtain ⟨l1, l2⟩ := hc.get
      refine ⟨g, c, arr, ty, by simp [e1, q1], q2, q3, ⟨by rw [l1]; exact q4.1, fun i c x hc hx => ?_⟩, q5, fun hf j hj => q6 hf j (by omega)⟩
      obtain ⟨c', hc', hr⟩ := l2 i c hc
      refine ⟨?_, (q4.2 i c' x hc' hx).2⟩
      rcases hr with hr | hr
      · exact renV_RV hr (q4.2 i c' x hc' hx).1
      · exact nilB_RV hr (q4.2 i c' x hc' hx).1
    · simp only at e1 e3 hfx
      have hy := h.hst b x e3
      cases x with
      | loop lp =>
        obtain ⟨g, c, l, q1, q2, q3, q4, q5, q6, q7, q8, q9, q10, q11⟩ := hy
        refine ⟨g, c, l, by simp [e1, q1], q2, q3, q4, q5, q6, q7, q8, q9, q10, fun i => ?_⟩
        have hi := q11 i
        cases hl : look lp.tm i with
        | none => exact trivial
        | some v =>
          rw [hl] at hi
          exact renV_RV (map_eq_mem hfx _ (look_mem hl)) hi
      | mark p =>
        obtain ⟨g, c, q1, q⟩ := hy
        exact ⟨g, c, by simp [e1, q1], q⟩
      | _ => exact hfx.elim
    simp only at e1 e2
    have hy := h.hst b' y e3
    cases x with
    | var cs f =>
      simp only [renX, Option.map_eq_some_iff] at e2
      obtain ⟨cs', hm, rfl⟩ := e2
      obtain ⟨g, c, arr, ty, q1, q2, q3, q4, q5, q6⟩ := hy
      obtain ⟨l1, l2⟩ := mapM_get hm
      refine ⟨g, c, arr, ty, by simp [e1, q1], q2, q3, ⟨by rw [l1]; exact q4.1, fun i c x hc hx => ?_⟩, q5, fun hf j hj => q6 hf j (by omega)⟩
      obtain ⟨c', hc', hr⟩ := l2 i c hc
      exact ⟨renV_RV hr (q4.2 i c' x hc' hx).1, (q4.2 i c' x hc' hx).2⟩
    | row e size cs p =>
      simp only [renX, Option.some.injEq] at e2
      subst e2
      rcases hy with ⟨g, cap, cur, q1, q⟩ | ⟨q1, q⟩
      · exact .inl ⟨g, cap, cur, by simp [e1, q1], q⟩
      · exact .inr ⟨by simp [e1, q1], q⟩
    | loop r => cases e2
    | mark p => cases e2
    | dead => trivial
  · intro b b' g c c' ha ha' hm hm'
    obtain ⟨b1, e1, a1⟩ := hal b ha (fun e => by simp [e] at hm)
    obtain ⟨b2, e2, a2⟩ := hal b' ha' (fun e => by simp [e] at hm')
    rw [e1] at hm
    rw [e2] at hm'
    have := h.inj b1 b2 g c c' a1 a2 hm hm'
    subst this
    exact look_inj h4 e1 e2
  · intro b hb
    have hr : look r b = none := by
      cases hl : look r b with
      | none => rfl
      | some b' => have := h3 _ (look_mem hl); simp only at this; omega
    refine ⟨?_, by simp [hr]⟩
    cases hl : look st' b with
    | none => rfl
    | some x =>
      have := h3' _ (look_mem hl)
      simp only at this; omega
  · intro b g c hm
    simp only [Option.bind_eq_some_iff] at hm
    obtain ⟨b', _, hm⟩ := hm
    exact h.mlt b' g c hm

theorem marks_sub {m : MP} {r : List (Nat × Nat)} : ∀ {ds : List Nat} {D : List Deferred}, (ds.all fun i => decide (look r i = some i)) = true → MarksR m ds D → MarksR (fun b => (look r b).bind m) ds D
  | [], [], _, _ => trivial
  | b :: ds, d :: D, h, ⟨⟨g, c, h1, h2⟩, h3⟩ => by
    rw [List.all_cons, Bool.and_eq_true] at h
    have e := of_decide_eq_true h.1
    exact ⟨⟨g, c, by simp [e, h1], h2⟩, marks_sub h.2 h3⟩
  | [], _ :: _, _, h => h.elim
  | _ :: _, [], _, h => h.elim

theorem rd_sub {m : MP} {FF : Fence} {r : List (Nat × Nat)} : ∀ {rd : Option Nat}, (rd.toList.all fun i => decide (look r i = some i)) = true → RdOK m FF rd → RdOK (fun b => (look r b).bind m) FF rd
  | none, _, h => h
  | some b, hr, ⟨l, c, h1, h2⟩ => by
    have e : look r b = some b := by simpa using hr
    exact ⟨l, c, h1, by simp [e, h2]⟩

section
variable {P : Program} {C : FuncId → Option Con}

/-- What a call leaves behind, by what is asked of it. -/
def AfterW (O : Nat → Prop) (w : World) (F : FZ) (m : MP) (K : V → ST → Nat → Prop) (e : Ending) (w' : World) : Prop :=
  ∃ v F' m' r st' top', e = .returned v ∧ K r st' top' ∧ RelH O w F m top' F' m' st' w' ∧ RV m' F' w'.heap r v

def WFnOK (P : Program) (g : FuncId) (args : List V) (st : ST) (top : Nat) (K : V → ST → Nat → Prop) : Prop :=
  ∀ (O : Nat → Prop) (F : FZ) (m : MP) (w : World) (vs : List Value), RelH O w F m top F m st w → RVl m F w.heap args vs → Calls P g vs.toArray w (AfterW O w F m K)

def WYldOK (P : Program) (b : Nat) (args : List V) (st : ST) (top : Nat) (K : V → ST → Nat → Prop) : Prop :=
  ∀ (O : Nat → Prop) (F : FZ) (m : MP) (w : World) (vs : List Value), RelH O w F m top F m st w → RVl m F w.heap args vs → ∀ g c, m b = some (g, c) →
    ∃ fn tmps assign body, (Instr.yield g vs.toArray).run P w = .ok (.round g fn tmps assign body) w ∧ ∀ FF, Wide FF → RoundIn FF 0 P g fn tmps assign body w (AfterW O w F m K)

/-- Calls are followed as the model does. -/
def WHOK (P : Program) (H : WH) : Prop := ∀ c avs st top K, H c avs st top K → match c with
  | .fn g caps => EntersOK P g ∧ WFnOK P g (avs ++ caps) st top K
  | .yld b => WYldOK P b avs st top K
  | _ => False

theorem wop_ok {H : WH} (hC : CtxOK P C) (hH : WHOK P H) (o : Oper) {O : Nat → Prop} {w0 : World} {F0 : FZ} {M0 : MP} {D : List Deferred} {F : FZ} {m : MP} {sz : Nat} {tm : TM} {st : ST} {a : Act} {w : World} {top : Nat} {K : V → ST → Nat → Prop} {next : Act → World → Prop} {Q : Exit → Act → World → Prop}
    (h : Rel O w0 F0 M0 D (fun b => top ≤ b) F m sz tm st a w) (hd : okDst sz o.dst = true) (hx : wop P C H top tm st o.op K)
    (hn : ∀ v st' top' F' m' a' w', K v st' top' → Rel O w0 F0 M0 D (fun b => top' ≤ b) F' m' sz (putT tm o.dst v) st' a' w' → next a' w') : o.wpX P a w next Q := by
  have plain : (opA P top (ev tm) o.op).go st (fun v st' => K v st' (top + 1)) → o.wpX P a w next Q := by
    intro he
    refine opA_ok h (id := top) (Nat.le_refl _) hd he ?_
    intro F' m' c s a' w' hR hk
    exact hn _ _ _ F' m' a' w' hk (hR.weakU fun b hb => ⟨by omega, by omega⟩)
  cases ho : o.op with
  | call c =>
    obtain ⟨callee, args, ts⟩ := c
    cases callee with
    | value f =>
      rw [ho] at hx
      simp only [wop] at hx
      have hf := h.ev f
      obtain ⟨hal, hav⟩ := args_rel h args.toList
      split at hx
      · next g caps hg =>
        rw [hg] at hf
        split at hx
        · rw [← ho] at hx
          refine op_ok hC o h (id := top) (Nat.le_refl _) hd hx ?_
          intro F' m' c s a' w' hR hk
          exact hn _ _ _ F' m' a' w' hk (hR.weakU fun b hb => ⟨by omega, by omega⟩)
        · obtain ⟨henter, hok⟩ := hH _ _ _ _ _ hx
          obtain ⟨arr, hf', hl, hv⟩ := hf
          have hval : RVl m F w.heap (args.toList.map (ev tm) ++ caps) (args.toList.map a.eval ++ arr.toList) := by
            refine ⟨by rw [List.length_append, List.length_append, hal, hl], fun i c x hc hx => ?_⟩
            by_cases hi : i < (args.toList.map (ev tm)).length
            · rw [List.getElem?_append_left hi] at hc
              rw [List.getElem?_append_left (by omega)] at hx
              exact hav i c x hc hx
            · rw [List.getElem?_append_right (by omega)] at hc
              rw [List.getElem?_append_right (by omega), ← hal] at hx
              exact RV.of_RP (hv _ c x hc hx)
          have hrun : (execOp a.eval o).run P w = .ok (.enter g (args.toList.map a.eval ++ arr.toList).toArray) w := by
            simp only [execOp, ho, resolve, Deferred.ofValue, hf', Sem.run_bind, Sem.run_pure, Result.andThen_ok, invoke]
            have e : (#[] ++ args.map a.eval ++ arr) = (args.toList.map a.eval ++ arr.toList).toArray := by
              apply Array.ext'
              simp
            rw [e, henter]
          intro FF hW
          refine ⟨fun f _ => hW.fn f, ?_⟩
          rw [Oper.semAt_eq _ _ _ (not_defer hrun (fun d e => by cases e)), hrun]
          refine ⟨fun e => (by rw [hW.dep] at e; cases e), (callsIn_of_calls hW ?_)⟩
          refine (hok O F m w _ h.toH hval).mono ?_
          rintro e w' ⟨x, F', m', r, st', top', rfl, hk, hR, hr⟩
          exact hn _ _ _ F' m' _ _ hk ((h.back hR).put hd hr)
      · next b hb =>
        rw [hb] at hf
        obtain ⟨g, c, hm, hf'⟩ := hf
        obtain ⟨fn, tmps, assign, body, hy, hround⟩ := hH _ _ _ _ _ hx O F m w (args.toList.map a.eval) h.toH ⟨hal, hav⟩ g c hm
        have hrun : (execOp a.eval o).run P w = .ok (.round g fn tmps assign body) w := by
          simp only [execOp, ho, resolve, Deferred.ofValue, hf', Sem.run_bind, Sem.run_pure, Result.andThen_ok, invoke]
          have e : (#[] ++ args.map a.eval) = (args.toList.map a.eval).toArray := by
            apply Array.ext'
            simp
          rw [e, hy]
        intro FF hW
        refine ⟨fun f _ => hW.fn f, ?_⟩
        rw [Oper.semAt_eq _ _ _ (not_defer hrun (fun d e => by cases e)), hrun]
        refine ⟨fun e => (by rw [hW.dep] at e; cases e), (hround FF hW).mono ?_⟩
        rintro e w' ⟨x, F', m', r, st', top', rfl, hk, hR, hr⟩
        exact hn _ _ _ F' m' _ _ hk ((h.back hR).put hd hr)
      · exact hx.elim
    | builtin b => exact plain (by rw [ho] at hx ⊢; exact hx)
    | invoke r n => exact plain (by rw [ho] at hx ⊢; exact hx)
  | _ => exact plain (by rw [ho] at hx ⊢; exact hx)

/-- A region in the order of the text. -/
theorem wops_sound {H : WH} (hC : CtxOK P C) (hH : WHOK P H) {FF : Fence} (hW : Wide FF) {O : Nat → Prop} {w0 : World} {F0 : FZ} {M0 : MP} {D : List Deferred} {sz : Nat} {ops : Array Oper} {Q : Exit → Act → World → Prop} {K : TM → ST → Nat → Prop}
    (hn : ∀ tm' st' nx' F' m' a' w', K tm' st' nx' → Rel O w0 F0 M0 D (fun b => nx' ≤ b) F' m' sz tm' st' a' w' → Q .normal a' w') :
    ∀ (l : List Oper) (k : Nat) (top : Nat) (F : FZ) (m : MP) (tm : TM) (st : ST) (a : Act) (w : World), ops.toList.drop k = l → Rel O w0 F0 M0 D (fun b => top ≤ b) F m sz tm st a w →
      wops P C H sz ops.toList l top tm st K → wpOpsIn FF 0 P ops Q ((List.range ops.size).drop k) a w
  | [], k, top, F, m, tm, st, a, w, hl, h, hg => by
    have hk : ops.size ≤ k := by
      have := congrArg List.length hl
      simp at this
      omega
    rw [List.drop_of_length_le (by simpa using hk)]
    exact hn _ _ _ F m a w hg h
  | o :: l, k, top, F, m, tm, st, a, w, hl, h, hg => by
    have hk : k < ops.size := by
      have := congrArg List.length hl
      simp at this
      omega
    have ho : ops[k]? = some o := by
      have : (ops.toList.drop k)[0]? = some o := by rw [hl]; rfl
      rw [List.getElem?_drop, Nat.add_zero, Array.getElem?_toList] at this
      exact this
    have hl' : ops.toList.drop (k + 1) = l := by
      rw [← List.drop_drop, hl]; rfl
    have hr : (List.range ops.size).drop k = k :: (List.range ops.size).drop (k + 1) := by
      rw [List.drop_eq_getElem_cons (by simpa using hk)]
      simp
    rw [hr]
    simp only [wpOpsIn, ho]
    simp only [wops] at hg
    split at hg
    · cases hg
    · next hd =>
      have run : (wop P C H top tm st o.op fun v st' top' => wops P C H sz ops.toList l top' (putT tm o.dst v) st' K) → o.wpIn FF 0 P a w (wpOpsIn FF 0 P ops Q ((List.range ops.size).drop (k + 1))) Q := by
        intro hg
        refine wop_ok hC hH o h hd hg ?_ FF hW
        intro v st1 top1 F1 m1 a1 w1 hk1 hR
        exact wops_sound hC hH hW hn l (k + 1) top1 F1 m1 _ st1 a1 w1 hl' hR hk1
      have pass : wops P C H sz ops.toList l (top + 1) (putT tm o.dst vU) st K → wpOpsIn FF 0 P ops Q ((List.range ops.size).drop (k + 1)) (a.put o.dst undef) w := fun hg =>
        wops_sound hC hH hW hn l (k + 1) (top + 1) F m _ st _ w hl' ((h.weakU fun b hb => by omega).put hd (c := vU) rfl) hg
      split at hg
      · next hgd =>
        have hw : Region.wanted o (yielded ops a.tmps) = true := by simp [Region.wanted, hgd]
        rw [if_pos hw]
        exact run hg
      · next j want hgd =>
        split at hg
        · cases hg
        · next d hdj =>
          split at hg
          · next b hb =>
            have hy := yielded_of h hdj hb
            have g1 : (b == want) = true → wop P C H top tm st o.op fun v st' top' => wops P C H sz ops.toList l top' (putT tm o.dst v) st' K := by
              cases want
              · obtain ⟨_, g⟩ := br_elim hg; intro e; exact g (by simpa using e)
              · obtain ⟨g, _⟩ := br_elim hg; intro e; exact g (by simpa using e)
            have g2 : (b == want) = false → wops P C H sz ops.toList l (top + 1) (putT tm o.dst vU) st K := by
              cases want
              · obtain ⟨g, _⟩ := br_elim hg; intro e; exact g (by simpa using e)
              · obtain ⟨_, g⟩ := br_elim hg; intro e; exact g (by simpa using e)
            by_cases hbw : (b == want) = true
            · have hw : Region.wanted o (yielded ops a.tmps) = true := by simpa [Region.wanted, hgd, hy] using hbw
              rw [if_pos hw]
              exact run (g1 hbw)
            · have hw : ¬ Region.wanted o (yielded ops a.tmps) = true := by simpa [Region.wanted, hgd, hy] using hbw
              rw [if_neg hw]
              exact ⟨fun f _ => hW.fn f, pass (g2 (by simpa using hbw))⟩
          · next arr hb =>
            have hy := yielded_not h hdj hb
            have hw : ¬ Region.wanted o (yielded ops a.tmps) = true := by simp [Region.wanted, hgd, hy]
            rw [if_neg hw]
            exact ⟨fun f _ => hW.fn f, pass hg⟩
          · cases hg
end
end Go.Ev
/- The evaluator with inline calls is the model's: code, functions, rounds. -/
set_option linter.unusedVariables false
set_option linter.unusedSimpArgs false
namespace Go.Ev
open Go.RowKit

section
variable {P : Program} {C : FuncId → Option Con} {H : WH}

theorem wcode_sound (hC : CtxOK P C) (hH : WHOK P H) (hmix : P.follows .mixedOrders = true) {FF : Fence} (hW : Wide FF) {sz pins : Nat} {rd : Option Nat} {O : Nat → Prop} {w0 : World} {F0 : FZ} {M0 : MP} (hp : ∀ b y, M0 b = some y → b < pins) :
    ∀ (c : Code) (Q : AX → XS → Prop) (s : XS), wcode P C H sz pins rd c Q s →
    ∀ (QQ : Exit → Act → World → Prop) (F : FZ) (m : MP) (D : List Deferred) (a : Act) (w : World), Rel O w0 F0 M0 D (fun b => s.nx ≤ b) F m sz s.tm s.st a w → MarksR m s.ds D → RdOK m FF rd →
      (∀ e s' a' w' F' m' D', Q e s' → Rel O w0 F0 M0 D' (fun b => s'.nx ≤ b) F' m' sz s'.tm s'.st a' w' → MarksR m' s'.ds D' → RdOK m' FF rd → QQ (exOf e) a' w') → c.wpIn FF 0 P QQ a w
  | .skip, Q, s, hx, QQ, F, m, D, a, w, h, hM, hrd, hq => wpIn_skip (hq .normal s a w F m D hx h hM hrd)
  | .exit i, Q, s, hx, QQ, F, m, D, a, w, h, hM, hrd, hq => wpIn_exit (hq (.exit i) s a w F m D hx h hM hrd)
  | .ret, Q, s, hx, QQ, F, m, D, a, w, h, hM, hrd, hq => wpIn_ret (hq .ret s a w F m D hx h hM hrd)
  | .region id ops false, Q, s, hx, QQ, F, m, D, a, w, h, hM, hrd, hq => by
    simp only [wcode] at hx
    refine wpIn_region ?_
    have := wops_sound hC hH hW (Q := QQ) (w0 := w) (F0 := F) (M0 := m) (D := D) (fun tm' st' nx' F' m' a' w' hk hR => hq .normal ⟨tm', s.ds, st', nx', s.b0⟩ a' w' F' m' D hk (h.comp hR) (hM.mono hR.pin) (hrd.mono hR.pin)) ops.toList 0 s.nx F m s.tm s.st a w rfl h.base hx
    simpa using this
  | .region id ops true, Q, s, hx, QQ, F, m, D, a, w, h, hM, hrd, hq => by
    simp only [wcode] at hx
    split at hx
    · next hah =>
      exact evOpsD_sound hC hW hmix hah h.base hx fun F' m' tm' st' a' w' hR hK =>
        hq .normal _ a' w' F' m' D hK (h.comp hR) (hM.mono hR.pin) (hrd.mono hR.pin)
    · cases hx
  | .seq x y, Q, s, hx, QQ, F, m, D, a, w, h, hM, hrd, hq => by
    simp only [wcode] at hx
    refine wpIn_seq ?_
    refine wcode_sound hC hH hmix hW hp x _ s hx _ F m D a w h hM hrd ?_
    intro e s1 a1 w1 F1 m1 D1 hk r1 r2 r3
    cases e with
    | normal => exact wcode_sound hC hH hmix hW hp y Q s1 hk QQ F1 m1 D1 a1 w1 r1 r2 r3 hq
    | exit i => exact hq (.exit i) s1 a1 w1 F1 m1 D1 hk r1 r2 r3
    | ret => exact hq .ret s1 a1 w1 F1 m1 D1 hk r1 r2 r3
  | .cond c x y, Q, s, hx, QQ, F, m, D, a, w, h, hM, hrd, hq => by
    simp only [wcode] at hx
    have he := h.ev c
    split at hx
    · next b hb =>
      rw [hb] at he
      have he' : a.eval c = .bool b := he
      obtain ⟨g1, g2⟩ := br_elim hx
      refine wpIn_cond he' ?_
      cases b with
      | true => exact wcode_sound hC hH hmix hW hp x Q s (g1 rfl) QQ F m D a w h hM hrd hq
      | false => exact wcode_sound hC hH hmix hW hp y Q s (g2 rfl) QQ F m D a w h hM hrd hq
    · cases hx
  | .block i c, Q, s, hx, QQ, F, m, D, a, w, h, hM, hrd, hq => by
    simp only [wcode] at hx
    refine wpIn_block ?_
    refine wcode_sound hC hH hmix hW hp c _ s hx _ F m D a w h hM hrd ?_
    intro e s1 a1 w1 F1 m1 D1 hk r1 r2 r3
    cases e with
    | normal => exact hq .normal s1 a1 w1 F1 m1 D1 hk r1 r2 r3
    | exit j =>
      show Exit.inBlock i QQ (.exit j) a1 w1
      simp only [Exit.inBlock]
      by_cases hj : j = i
      · rw [if_pos hj]
        simp only [hj, decide_true] at hk
        exact hq .normal s1 a1 w1 F1 m1 D1 hk r1 r2 r3
      · rw [if_neg hj]
        simp only [hj, decide_false] at hk
        exact hq (.exit j) s1 a1 w1 F1 m1 D1 hk r1 r2 r3
    | ret => exact hq .ret s1 a1 w1 F1 m1 D1 hk r1 r2 r3
  | .loop c, Q, s, hx, QQ, F, m, D, a, w, h, hM, hrd, hq => by
    simp only [wcode] at hx
    obtain ⟨α, mk, μ, ⟨x0, r0, h0⟩, hround⟩ := hx
    refine wpIn_loop_ghost (fun n a w => ∃ x F m D, μ x = n ∧ Rel O w0 F0 M0 D (fun b => (mk x).nx ≤ b) F m sz (mk x).tm (mk x).st a w ∧ MarksR m s.ds D ∧ RdOK m FF rd) (μ x0)
      ⟨x0, F, _, D, rfl, h.subF hp h0, marks_sub h0.2.2.2.2.1 hM, rd_sub h0.2.2.2.2.2 hrd⟩ ?_
    rintro n a w ⟨x, F, m, D, rfl, hR, hM1, hrd1⟩
    refine wcode_sound hC hH hmix hW hp c _ ⟨(mk x).tm, s.ds, (mk x).st, (mk x).nx, s.b0⟩ (hround x) _ F m D a w hR hM1 hrd1 ?_
    intro e s1 a1 w1 F1 m1 D1 hk r1 r2 r3
    cases e with
    | normal =>
      obtain ⟨hds, y, r, hs, hlt⟩ := hk
      rw [hds] at r2
      exact ⟨μ y, hlt, y, F1, _, D1, rfl, r1.subF hp hs, marks_sub hs.2.2.2.2.1 r2, rd_sub hs.2.2.2.2.2 r3⟩
    | exit i =>
      obtain ⟨n, hn, hk⟩ := hk
      exact hq (.exit i) _ a1 w1 F1 m1 D1 hk (r1.weakU fun b hb => Nat.le_trans hn hb) r2 r3
    | ret =>
      obtain ⟨n, hn, hk⟩ := hk
      exact hq .ret _ a1 w1 F1 m1 D1 hk (r1.weakU fun b hb => Nat.le_trans hn hb) r2 r3
  | .rangeFunc f ps assign body, Q, s, hx, QQ, F, m, D, a, w, h, hM, hrd, hq => by
    simp only [wcode] at hx
    split at hx
    · cases hx
    · next s1 hs1 =>
      have hf := h.ev f
      split at hx
      · next g caps hg =>
        rw [hg] at hf
        obtain ⟨arr, hf', hl, hv⟩ := hf
        obtain ⟨henter, hok⟩ := hH _ _ _ _ _ hx
        refine wpIn_rangeFunc fun fn _ => ?_
        have ha : a.defers = D := h.hde
        -- the call
        have hres : ∀ (l : Nat) (w1 : World), (resolve a.eval (rangeCall f l) 0).run P w1 = .ok { target := .fn (.func g) arr, args := #[.func (.yield l) #[] #[]] } w1 := by
          intro l w1
          have e : (rangeCall f l).args.map a.eval = #[.func (.yield l) #[] #[]] := by simp [rangeCall, Act.eval]
          show (Deferred.ofValue (a.eval f) ((rangeCall f l).args.map a.eval)).run P w1 = _
          rw [hf', e]
          rfl
        have hinv : ∀ (l : Nat) (w1 : World), (invoke (.fn (.func g) arr) #[.func (.yield l) #[] #[]]).run P w1 = .ok (.enter g (.func (.yield l) #[] #[] :: arr.toList).toArray) w1 := by
          intro l w1
          simp only [invoke]
          have e : (#[.func (.yield l) #[] #[]] ++ arr : Array Value) = (.func (.yield l) #[] #[] :: arr.toList).toArray := by
            apply Array.ext'
            simp
          rw [e, henter]
        have hargs : ∀ (F1 : FZ) (m1 : MP) (w1 : World) (l c : Nat), m1 s.nx = some (l, c) → (∀ b y, m b = some y → m1 b = some y) → (∀ g j, F g j → F1 g j) → Keeps F w.heap w1.heap → RVl m1 F1 w1.heap ([.yld s.nx] ++ caps) (.func (.yield l) #[] #[] :: arr.toList) := by
          intro F1 m1 w1 l c hb hmm hff hkk
          refine ⟨by simp [hl], fun i c' x hc hx => ?_⟩
          cases i with
          | zero => simp at hc hx; subst hc hx; exact ⟨l, c, hb, rfl⟩
          | succ i =>
            simp at hc hx
            exact RV.of_RP ((hv i c' x hc (by simpa using hx)).mono hmm hff hkk)
        -- what is asked behind the call
        have after : ∀ {D' : List Deferred} {ds' : List Nat} {U : Nat → Prop} {F2 F3 : FZ} {m2 m3 : MP} {w1 w2 : World} {st1 st2 : ST} {nx2 l c : Nat} {a' : Act} {v : Value},
            (match look st2 s.nx with
              | some (.loop r2) => match isBusy r2.state with
                | true => False
                | false => match r2.pending with
                  | none => Q .normal ⟨s.tm, ds', (s.nx, .loop { r2 with state := .exhausted }) :: st2, nx2, s.b0⟩
                  | some (.exit i) => Q (.exit i) ⟨s.tm, ds', (s.nx, .loop { r2 with state := .exhausted }) :: st2, nx2, s.b0⟩
                  | some .ret => Q .ret ⟨s.tm, ds', (s.nx, .loop { r2 with state := .exhausted }) :: st2, nx2, s.b0⟩
                  | _ => False
              | _ => False) →
            Rel O w0 F0 M0 D U F2 m2 sz s.tm st1 a w1 → RelH O w1 F2 m2 nx2 F3 m3 st2 w2 → a'.tmps = a.tmps → a'.defers = D' → m2 s.nx = some (l, c) → MarksR m2 ds' D' → (∀ b y, m b = some y → m2 b = some y) → rangePost FF 0 P l QQ a' (.returned v) w2 := by
          intro D' ds' U F2 F3 m2 m3 w1 w2 st1 st2 nx2 l c a' v hk hR hkR hat haD hb hMk hmm
          split at hk
          · next r2 hr2 =>
            split at hk
            · cases hk
            · next hbusy =>
              split at hk
              · next hpn =>
                exact range_end (e := .normal) (j := none) hR hkR hat haD hb hr2 hbusy hMk hpn (.inl ⟨rfl, rfl⟩) fun w3 F' m' r1 r2' r3' => hq .normal _ _ w3 F' m' D' hk r1 r3' (hrd.mono fun b y e => r2' b y (hmm b y e))
              · next i hpn =>
                exact range_end (e := .exit i) (j := some (.exit i)) hR hkR hat haD hb hr2 hbusy hMk hpn (.inr (.inl ⟨i, rfl, rfl⟩)) fun w3 F' m' r1 r2' r3' => hq (.exit i) _ _ w3 F' m' D' hk r1 r3' (hrd.mono fun b y e => r2' b y (hmm b y e))
              · next hpn =>
                exact range_end (e := .ret) (j := some .ret) hR hkR hat haD hb hr2 hbusy hMk hpn (.inr (.inr ⟨rfl, rfl⟩)) fun w3 F' m' r1 r2' r3' => hq .ret _ _ w3 F' m' D' hk r1 r3' (hrd.mono fun b y e => r2' b y (hmm b y e))
              · cases hk
          · cases hk
        cases rd with
        | none =>
          have hro : FF.round = none := hrd
          cases hs1
          obtain ⟨hA, hmA, hkA⟩ := h.base.newO (id := s.nx + 1) (cap := 0) (by show s.nx ≤ s.nx + 1; omega) (o := .deferred (some [])) (x := .mark true) (by simp) (by
            intro m' hm' hid hk hh hno
            exact ⟨_, _, hid, h.own_new, hh, hno⟩)
          obtain ⟨hB, hmB, hkB⟩ := hA.newO (id := s.nx) (cap := 0) (by constructor <;> first | omega | (show s.nx ≤ s.nx; omega)) (o := .loop { state := .ready, pending := none, fn, tmps := a.tmps, params := ps, assign, body, defers := w.heap.size })
            (x := .loop ⟨s.tm, sz, ps, assign, body, .ready, none⟩) (by simp) (by
            intro m' hm' hid hk hh hno
            exact ⟨_, _, _, hid, hA.own_new, hh, hno, rfl, rfl, rfl, rfl, rfl, h.hsz, fun i => (hA.htm i).mono hm' (fun _ _ e => e) hk⟩)
          have hsize : (w.alloc (.deferred (some []))).heap.size = w.heap.size + 1 := by simp
          refine ⟨w.heap.size + 1, [{ target := .collected w.heap.size, args := #[] }], _, _, _, g, _, _, by rw [hro]; exact run_enterLoop_outer fn a.tmps ps assign body, hres _ _, fun f' _ => hW.fn f', hinv _ _, fun e => (by rw [hW.dep] at e; cases e), callsIn_of_calls hW ?_⟩
          refine (hok O _ _ _ _ (hB.weakU (U' := fun b => s.nx + 2 ≤ b) fun b hb => ⟨⟨show s.nx ≤ b by omega, by omega⟩, by omega⟩).toH (hargs _ _ _ (w.heap.size + 1) 0 (by simp [hsize]) (fun b y e => hmB b y (hmA b y e)) (fun _ _ e => e) (fun g' j' e => (hkB g' j' e).trans (hkA g' j' e)))).mono ?_
          rintro en w2 ⟨v, F3, m3, rr, st2, nx2, rfl, hk, hkR, _⟩
          refine after (a' := { a with defers := [{ target := .collected w.heap.size, args := #[] }] ++ a.defers }) (D' := { target := .collected w.heap.size, args := #[] } :: D) (ds' := (s.nx + 1) :: s.ds) (c := 0) hk (h.comp hB) hkR rfl (by rw [← ha]; rfl) (by simp [hsize]) ?_ (fun b y e => hmB b y (hmA b y e))
          exact ⟨⟨w.heap.size, 0, by simp, rfl⟩, hM.mono fun b y e => hmB b y (hmA b y e)⟩
        | some b =>
          obtain ⟨l0, c0, hro, hb0⟩ := hrd
          simp only [xenter] at hs1
          split at hs1
          · next r0 hr0 =>
            cases hs1
            obtain ⟨g0, c0', lp0, z1, z2, z3, _⟩ := h.hst b _ hr0
            rw [hb0] at z1; cases z1
            obtain ⟨hB, hmB, hkB⟩ := h.base.newO (id := s.nx) (cap := 0) (by show s.nx ≤ s.nx; omega) (o := .loop { state := .ready, pending := none, fn, tmps := a.tmps, params := ps, assign, body, defers := lp0.defers })
              (x := .loop ⟨s.tm, sz, ps, assign, body, .ready, none⟩) (by simp) (by
              intro m' hm' hid hk hh hno
              exact ⟨_, _, _, hid, h.own_new, hh, hno, rfl, rfl, rfl, rfl, rfl, h.hsz, fun i => (h.htm i).mono hm' (fun _ _ e => e) hk⟩)
            refine ⟨w.heap.size, [], _, _, _, g, _, _, by rw [hro]; exact run_enterLoop_inner z3 fn a.tmps ps assign body, hres _ _, fun f' _ => hW.fn f', hinv _ _, fun e => (by rw [hW.dep] at e; cases e), callsIn_of_calls hW ?_⟩
            refine (hok O _ _ _ _ (hB.weakU (U' := fun b => s.nx + 1 ≤ b) fun b hb => ⟨show s.nx ≤ b by omega, by omega⟩).toH (hargs _ _ _ w.heap.size 0 (by simp) hmB (fun _ _ e => e) hkB)).mono ?_
            rintro en w2 ⟨v, F3, m3, rr, st2, nx2, rfl, hk, hkR, _⟩
            exact after (a' := { a with defers := [] ++ a.defers }) (D' := D) (ds' := s.ds) (c := 0) hk (h.comp hB) hkR rfl (by rw [← ha]; rfl) (by simp) (hM.mono hmB) hmB
          · cases hs1
      · cases hx
  | .scope _, _, _, hx, _, _, _, _, _, _, _, _, _, _ => hx.elim
  | .label _, _, _, hx, _, _, _, _, _, _, _, _, _, _ => hx.elim
  | .goto _, _, _, hx, _, _, _, _, _, _, _, _, _, _ => hx.elim
  | .refuse _, _, _, hx, _, _, _, _, _, _, _, _, _, _ => hx.elim

theorem wres_ok {fn : Func} {O : Nat → Prop} {w0 : World} {F0 : FZ} {M0 : MP} {D : List Deferred} {U : Nat → Prop} {F : FZ} {m : MP} {sz : Nat} {tm : TM} {st : ST} {a : Act} {w : World} {K : V → ST → Prop}
    (h : Rel O w0 F0 M0 D U F m sz tm st a w) (hx : wres P fn tm st K) : ∃ v F' r st', (results fn a.tmps).run P w = .ok v w ∧ K r st' ∧ Rel O w0 F0 M0 D U F' m sz tm st' a w ∧ RV m F' w.heap r v := by
  unfold wres at hx
  split at hx
  · next t ht =>
    refine ⟨_, F, _, _, results_eq fn a.tmps w [a.tmps.getD t undef] (by rw [ht]; simp [List.mapM_cons, resOne]), hx, h, ?_⟩
    exact h.htm t
  · next p t ht =>
    obtain ⟨F0', st0, c0, v0, h0, e0, hrun, hv0, hk⟩ := load_sound (P := P) (C := fun _ => none) h hx
    have hld : (resOne a.tmps (.cell p t)).run P w = .ok v0 w := by
      have e : a.eval (.tmp p) = a.tmps.getD p undef := rfl
      rw [e] at hrun
      simp only [resOne]
      cases hp : a.tmps.getD p undef with
      | pointer q =>
        rw [hp] at hrun
        cases q with
        | some q => simpa [asAddr, Instr.loadAt, Instr.sureAddr] using hrun
        | none => simp [Instr.loadAt, Instr.sureAddr, Result.andThen] at hrun
      | _ => rw [hp] at hrun; simp [Instr.loadAt, Instr.sureAddr, Result.andThen] at hrun
    exact ⟨_, F0', c0, st0, results_eq fn a.tmps w [v0] (by rw [ht]; simp [List.mapM_cons, hld]), hk, h0, hv0⟩
  · obtain ⟨F1, st1, vs1, c1, r1, r2, r3, r4⟩ := resR_sound fn.results.toList [] [] F st h hx rfl (by simp)
    exact ⟨_, F1, c1, st1, results_eq fn a.tmps w vs1 r2, r4, r1, RV.of_RC r3⟩

theorem wfn_ok (hC : CtxOK P C) (hH : WHOK P H) (hmix : P.follows .mixedOrders = true) {g : FuncId} {fn : Func} {c : Code} (hf : P.funcs[g]? = some fn) (hb : fn.body = some c) {args : List V} {st : ST} {top : Nat} {K : V → ST → Nat → Prop}
    (hx : wfn P C H fn c args st top K) : WFnOK P g args st top K := by
  intro O F m w vs h hv
  unfold wfn at hx
  split at hx
  · cases hx
  · next hle =>
    have hlen : args.length ≤ fn.ntmps := Nat.le_of_ble_eq_true hle
    refine callsIn_wide.1 (callsIn_of_wp_marks (n := 0) hf hb trivial ?_)
    have hR0 : Rel O w F m [] (fun b => top ≤ b) F m fn.ntmps (startT args) st { tmps := vs.toArray ++ Array.replicate (fn.ntmps - vs.toArray.size) undef, defers := [] } w := by
      refine h.act (fun i => ?_) (by have := hv.1; simp; omega) rfl
      have e : look (startT args) i = args[i]? := by
        unfold startT
        rw [List.range_eq_range', look_start args 0 i]
        simp
      rw [e]
      cases hi : args[i]? with
      | none => exact trivial
      | some c =>
        have hl := hv.1
        have hil : i < args.length := (List.getElem?_eq_some_iff.1 hi).1
        have hx : vs[i]? = some (vs[i]'(by omega)) := List.getElem?_eq_getElem (by omega)
        have := hv.2 i c _ hi hx
        simp only [Option.getD_some]
        have e2 : (vs.toArray ++ Array.replicate (fn.ntmps - vs.toArray.size) undef).getD i undef = vs[i]'(by omega) := by
          rw [Array.getD_eq_getD_getElem?, Array.getElem?_append_left (by simp; omega)]
          simp [hx]
        rw [e2]
        exact this
    have hpins : ∀ b y, m b = some y → b < top := by
      intro b y e
      by_cases hb : top ≤ b
      · rw [(h.fresh b hb).2] at e; cases e
      · omega
    refine wcode_sound hC hH hmix wide_wide hpins c _ ⟨startT args, [], st, top, top⟩ hx _ F m [] _ w hR0 trivial rfl fun e s a' w' F' m' D' hk r1' r3' _ => ?_
    have fin : ∀ st1, xmarks s.ds s.st = some st1 → (wres P fn s.tm st1 fun r st2 => K r st2 s.nx) → LeavesInM Fence.wide 0 P fn a'.tmps (AfterW O w F m K) a'.defers .returning w' := by
      intro st1 hm hr
      rw [r1'.hde]
      refine leaves_ok s.ds D' s.st st1 w' hm r1' r3' fun w1 hR1 => ?_
      obtain ⟨v, F2, r, st2, hrun, hk2, hR2, hv2⟩ := wres_ok hR1 hr
      exact ⟨v, hrun, v, F2, m', r, st2, s.nx, rfl, hk2, hR2.heap, hv2⟩
    cases e with
    | normal =>
      simp only at hk
      split at hk
      · cases hk
      · next st1 hm => exact fin st1 hm hk
    | ret =>
      simp only at hk
      split at hk
      · cases hk
      · next st1 hm => exact fin st1 hm hk
    | exit i => exact hk.elim

theorem wround_ok (hC : CtxOK P C) (hH : WHOK P H) (hmix : P.follows .mixedOrders = true) {b : Nat} {args : List V} {st : ST} {top : Nat} {K : V → ST → Nat → Prop}
    (hx : wround P C H b args st top K) : WYldOK P b args st top K := by
  intro O F m w vs h hv g c hm
  have hpins : ∀ b y, m b = some y → b < top := by
    intro b y e
    by_cases hb : top ≤ b
    · rw [(h.fresh b hb).2] at e; cases e
    · omega
  unfold wround at hx
  split at hx
  · next r0 hl0 =>
    split at hx
    · next hrd =>
      split at hx
      · cases hx
      · next hlen =>
        rw [Bool.and_eq_true] at hlen
        have hn : args.length = r0.ps.size := Nat.eq_of_beq_eq_true hlen.1
        obtain ⟨g', c', lp, q1, q2, q3, q4, q5, q6, q7, q8, q9, q10, q11⟩ := h.hst b _ hl0
        rw [hm] at q1; cases q1
        have hvs : vs.length = lp.params.size := by rw [q7, ← hn, hv.1]
        have hy := run_yield (P := P) (args := vs.toArray) q3 (by simpa using hvs)
        refine ⟨_, _, _, _, hy, fun FF hW => ?_⟩
        have hfold : (lp.params.zip vs.toArray).foldl (fun tmps (t, a) => tmps.setIfInBounds t a) lp.tmps = (r0.ps.toList.zip vs).foldl (fun t p => t.setIfInBounds p.1 p.2) lp.tmps := by
          rw [q7, ← Array.foldl_toList, Array.toList_zip]
        have hput := foldl_put (m := m) (F := F) (Hp := w.heap) (sz := r0.sz) (r0.ps.toList.zip args) (r0.ps.toList.zip vs) r0.tm lp.tmps (by simp [hv.1]) (by
          intro i p q e1 e2
          rw [List.getElem?_zip_eq_some] at e1 e2
          have : p.1 = q.1 := by have := e1.1.symm.trans e2.1; simpa using this
          refine ⟨this, ?_, hv.2 i _ _ e1.2 e2.2⟩
          have := List.all_eq_true.1 hlen.2 p.1 (List.mem_of_getElem? e1.1)
          exact Nat.le_of_ble_eq_true this) q10 q11
        refine roundIn_of_wpIn (hW.fn _) ?_
        rw [hfold]
        have hR0 : Rel O w F m [] (fun b => top ≤ b) F m r0.sz ((r0.ps.toList.zip args).foldl (fun t p => p :: t) r0.tm) st { tmps := (r0.ps.toList.zip vs).foldl (fun t p => t.setIfInBounds p.1 p.2) lp.tmps, defers := [] } w :=
          h.act hput.2 hput.1 rfl
        have hrdok : RdOK m (FF.inRound g) (some b) := ⟨g, c, rfl, hm⟩
        rw [q8]
        refine wcode_sound hC hH hmix (wide_round hW g) hpins r0.assign _ ⟨_, [], st, top, top⟩ hx _ F m [] _ w hR0 trivial hrdok fun e s1 a1 w1 F1 m1 D1 hk z1 z3 z4 => ?_
        cases e with
        | normal =>
          simp only at hk
          split at hk
          · next r1 hl1 =>
            split at hk
            · next hrd1 =>
              -- the body
              have hm1 := z1.pin _ _ hm
              obtain ⟨g1, c1, lp1, y1, y2, y3, y4, y5, y6, y7, y8, y9, y10, y11⟩ := z1.hst b _ hl1
              rw [hm1] at y1; cases y1
              have hB := z1.putO (x1 := .loop { r1 with state := .busy }) hl1 (by simp) (by simp) hm1 y2 y4 (o := .loop { lp1 with state := .busy }) (fun hkk hnew =>
                ⟨_, _, _, hm1, y2, hnew, y4, rfl, y6, y7, y8, y9, y10, fun i => (y11 i).mono (fun _ _ e => e) (fun _ _ e => e) hkk⟩)
              refine ⟨_, run_beginRound y3 (by rw [y5]; exact isReady_eq hrd1), ?_⟩
              rw [q9]
              refine wcode_sound hC hH hmix (wide_round hW g) hpins r0.body _ ⟨s1.tm, s1.ds, _, s1.nx, s1.b0⟩ hk _ F1 m1 D1 _ _ hB z3 z4 fun e s2 a2 w2 F2 m2 D2 hk2 x1 x3 x4 => ?_
              split at hk2
              · next r2 hl2 =>
                have hm2 := x1.pin _ _ hm
                obtain ⟨g2, c2, lp2, u1, u2, u3, u4, u5, u6, u7, u8, u9, u10, u11⟩ := x1.hst b _ hl2
                rw [hm2] at u1; cases u1
                have fin : ∀ (j : Option Code) (ls : LoopState), ls = (if j.isNone then .ready else .done) → Rel O w F m D2 (fun b => s2.nx ≤ b) F2 m2 r0.sz s2.tm ((b, .loop { r2 with state := ls, pending := j }) :: s2.st) a2 (w2.putObj g (.loop { lp2 with state := (if j.isNone then .ready else .done), pending := j })) := by
                  intro j ls hls
                  subst hls
                  exact x1.putO hl2 (by simp) (by simp) hm2 u2 u4 (fun hkk hnew =>
                    ⟨_, _, _, hm2, u2, hnew, u4, rfl, rfl, u7, u8, u9, u10, fun i => (u11 i).mono (fun _ _ e => e) (fun _ _ e => e) hkk⟩)
                cases e with
                | normal => exact ⟨_, _, run_endRound none u3, _, F2, m2, _, _, _, rfl, hk2, (fin none .ready rfl).heap, rfl⟩
                | exit i => exact ⟨_, _, run_endRound (some (.exit i)) u3, _, F2, m2, _, _, _, rfl, hk2, (fin (some (.exit i)) .done rfl).heap, rfl⟩
                | ret => exact ⟨_, _, run_endRound (some .ret) u3, _, F2, m2, _, _, _, rfl, hk2, (fin (some .ret) .done rfl).heap, rfl⟩
              · cases hk2
            · cases hk
          · cases hk
        | exit i => exact hk.elim
        | ret => exact hk.elim
    · cases hx
  · cases hx

theorem wcall_ok {G : XG} (hC : CtxOK P C) (hG : GOK P G) (hmix : P.follows .mixedOrders = true) : ∀ n, WHOK P (wcall P C G n)
  | 0 => fun c avs st top K h => h.elim
  | n + 1 => by
    intro c avs st top K h
    have ih := wcall_ok hC hG hmix n
    simp only [wcall] at h
    split at h
    · next g caps =>
      split at h
      · next fn hg =>
        split at h
        · next code hb => exact ⟨(hG g fn hg).2, wfn_ok hC ih hmix (hG g fn hg).1 hb h⟩
        · cases h
      · cases h
    · next b => exact wround_ok hC ih hmix h
    · cases h

/-- What is asked of a result at the end. -/
def endI (r : V) (v : V) (st : ST) (nx : Nat) : Prop := (fz 4 v .ret).go st fun r' _ => LeV r' r

/-- A FUNCTION, by what the evaluator says of it, calls followed inline. -/
theorem hasI {G : XG} (hC : CtxOK P C) (hG : GOK P G) (hmix : P.follows .mixedOrders = true) (n : Nat) {f : FuncId} {fn : Func} {c : Code} (hf : P.funcs[f]? = some fn) (hb : fn.body = some c)
    (hn : (fn.name == "runtime.NumGoroutine") = false) {α β : Type} {F : α → Option β} {enc : α → List V} {er : β → V}
    (h : ∀ x r, (F x).bind some = some r → wfn P C (wcall P C G n) fn c (enc x) [] 0 (endI (er r))) : Has P f (conF F enc er) := by
  refine ⟨?_, enters_ok hf hn (by simp [hb])⟩
  show SoundV P f _
  rintro ⟨x, y⟩ F1 w vs hF hv hok
  have hok : F x = some y := hok
  have hx := h x y (by rw [hok]; rfl)
  have hR : RelH (fun k => w.heap.size ≤ k) w F1 (fun _ => none) 0 F1 (fun _ => none) [] w :=
    { htm := fun i => trivial, hsz := rfl, hde := rfl, hst := fun b x hx => by simp at hx, inj := fun b b' g c c' _ _ hm => (by cases hm), fresh := fun b _ => ⟨rfl, rfl⟩, pin := fun b y e => (by cases e), keep := Keeps.refl _ _, f0 := fun _ _ e => e, f1 := fun _ _ e => .inl e, f2 := hF, mlt := fun b g c hm => (by cases hm), below := Own.refl _ _, hb := fun _ e => e }
  have hv' : RVl (fun _ => none) F1 w.heap (enc x) vs := by
    have := RCs_iff.1 hv
    exact ⟨this.1, fun i c x hc hx => RV.of_RC (this.2 i c x hc hx).1⟩
  refine (wfn_ok hC (wcall_ok hC hG hmix n) hmix hf hb hx _ F1 _ w vs hR hv').mono ?_
  rintro e w' ⟨v, F', m', r1, st', top', rfl, hk, hR', hr⟩
  obtain ⟨F2, st2, c1, k1, k2, k3, k4, _⟩ := fz_sound 4 r1 v .ret st' F' (fun c' s => LeV c' (er y)) hR' hr hk
  exact ⟨v, F2, rfl, k1.below.below, k1.f0, k1.f1, k1.f2, LeV.le k4 _ _ _ k3⟩
end
end Go.Ev
/- Steps of the evaluator with inline calls, one at a time. -/
set_option linter.unusedVariables false
set_option linter.unusedSimpArgs false
namespace Go.Ev

/-- Boxes that a renaming leaves alone. -/
def idr (n : Nat) : List (Nat × Nat) := (List.range n).map fun i => (i, i)
/-- Boxes that a loop keeps as they are. -/
noncomputable def keepB (keep : List Nat) (st : ST) : ST := keep.filterMap fun b => (look st b).map fun x => (b, x)

section
variable {P : Program} {C : FuncId → Option Con} {H : WH} {sz pins nx b0 top : Nat} {tm : TM} {st : ST} {ds : List Nat} {rd : Option Nat}

/-! operations -/
def isV : Op → Bool
  | .call c => match c.callee with
    | .value _ => true
    | _ => false
  | _ => false
theorem wop_plain {op : Op} {K : V → ST → Nat → Prop} (hv : isV op = false) (h : (opA P top (ev tm) op).go st fun v st' => K v st' (top + 1)) : wop P C H top tm st op K := by
  cases op with
  | call c =>
    obtain ⟨callee, args, x⟩ := c
    cases callee with
    | value f => cases hv
    | _ => exact h
  | _ => exact h
theorem wop_con {c : Call} {f : Operand} {g : FuncId} {caps : List V} {con : Con} {K : V → ST → Nat → Prop} (hv : c.callee = .value f) (hf : ev tm f = .fn g caps) (hc : C g = some con) (h : (opR P C top (ev tm) (.call c)).go st fun v st' => K v st' (top + 1)) : wop P C H top tm st (.call c) K := by
  simp only [wop, hv, hf, hc]
  exact h
theorem wop_inl {c : Call} {f : Operand} {g : FuncId} {caps : List V} {K : V → ST → Nat → Prop} (hv : c.callee = .value f) (hf : ev tm f = .fn g caps) (hc : C g = none) (h : H (.fn g caps) (c.args.toList.map (ev tm)) st top K) : wop P C H top tm st (.call c) K := by
  simp only [wop, hv, hf, hc]
  exact h
theorem wop_yld {c : Call} {f : Operand} {b : Nat} {K : V → ST → Nat → Prop} (hv : c.callee = .value f) (hf : ev tm f = .yld b) (h : H (.yld b) (c.args.toList.map (ev tm)) st top K) : wop P C H top tm st (.call c) K := by
  simp only [wop, hv, hf]
  exact h

def wopsK (P : Program) (C : FuncId → Option Con) (H : WH) (sz : Nat) (all os : List Oper) (tm : TM) (dst : Option Nat) (K : TM → ST → Nat → Prop) (v : V) (st : ST) (top : Nat) : Prop := wops P C H sz all os top (putT tm dst v) st K
theorem wops_k {all os : List Oper} {dst : Option Nat} {K : TM → ST → Nat → Prop} {v : V} (h : wops P C H sz all os top (putT tm dst v) st K) : wopsK P C H sz all os tm dst K v st top := h
theorem wops_nil {all : List Oper} {K : TM → ST → Nat → Prop} (h : K tm st top) : wops P C H sz all [] top tm st K := h
theorem wops_cons {all : List Oper} {o : Oper} {os : List Oper} {K : TM → ST → Nat → Prop} (hd : okDst sz o.dst = true) (hg : o.guard = none)
    (h : wop P C H top tm st o.op (wopsK P C H sz all os tm o.dst K)) : wops P C H sz all (o :: os) top tm st K := by
  unfold wops
  simp only [hd, hg]
  exact h
theorem wops_take {all : List Oper} {o : Oper} {os : List Oper} {K : TM → ST → Nat → Prop} {j d : Nat} {want : Bool} (hd : okDst sz o.dst = true) (hg : o.guard = some (j, want)) (hj : (all[j]?).bind (·.dst) = some d) (hl : (look tm d).getD .top = .v (.bool want))
    (h : wop P C H top tm st o.op (wopsK P C H sz all os tm o.dst K)) : wops P C H sz all (o :: os) top tm st K := by
  unfold wops
  simp only [hd, hg, hj, hl]
  cases want with
  | true => exact h
  | false => exact h
theorem wops_skip {all : List Oper} {o : Oper} {os : List Oper} {K : TM → ST → Nat → Prop} {j d : Nat} {want : Bool} (hd : okDst sz o.dst = true) (hg : o.guard = some (j, want)) (hj : (all[j]?).bind (·.dst) = some d) (hl : (look tm d).getD .top = .v (.bool !want))
    (h : wops P C H sz all os (top + 1) (putT tm o.dst vU) st K) : wops P C H sz all (o :: os) top tm st K := by
  unfold wops
  simp only [hd, hg, hj, hl]
  cases want with
  | true => exact h
  | false => exact h
theorem wops_skipU {all : List Oper} {o : Oper} {os : List Oper} {K : TM → ST → Nat → Prop} {j d : Nat} {want : Bool} {arr : Array Value} (hd : okDst sz o.dst = true) (hg : o.guard = some (j, want)) (hj : (all[j]?).bind (·.dst) = some d) (hl : (look tm d).getD .top = .v (.tuple arr))
    (h : wops P C H sz all os (top + 1) (putT tm o.dst vU) st K) : wops P C H sz all (o :: os) top tm st K := by
  unfold wops
  simp only [hd, hg, hj, hl]
  exact h

/-! code -/
def wseqK (P : Program) (C : FuncId → Option Con) (H : WH) (sz pins : Nat) (rd : Option Nat) (b : Code) (Q : AX → XS → Prop) (e : AX) (s : XS) : Prop := match e with
  | .normal => wcode P C H sz pins rd b Q s
  | e => Q e s
def wblockK (id : Nat) (Q : AX → XS → Prop) (e : AX) (s : XS) : Prop := match e with
  | .exit j => match decide (j = id) with
    | true => Q .normal s
    | false => Q (.exit j) s
  | e => Q e s
def wloopK (pins : Nat) (ds : List Nat) (rd : Option Nat) {α : Type} (mk : α → LS) (μ : α → Nat) (x : α) (Q : AX → XS → Prop) (e : AX) (s : XS) : Prop := match e with
  | .normal => s.ds = ds ∧ ∃ y r, SubF pins ds rd r (mk y).tm (mk y).st (mk y).nx s.tm s.st ∧ μ y < μ x
  | e => ∃ n, s.nx ≤ n ∧ Q e ⟨s.tm, s.ds, s.st, n, s.b0⟩
def wfnK (P : Program) (fn : Func) (K : V → ST → Nat → Prop) (e : AX) (s : XS) : Prop := match e with
  | .exit _ => False
  | _ => match xmarks s.ds s.st with
    | none => False
    | some st1 => wres P fn s.tm st1 fun r st2 => K r st2 s.nx
def wbodyK (b : Nat) (K : V → ST → Nat → Prop) (e : AX) (s2 : XS) : Prop := match look s2.st b with
  | some (.loop r2) => match e with
    | .normal => K (.v (.bool true)) ((b, .loop { r2 with state := .ready, pending := none }) :: s2.st) s2.nx
    | .exit i => K (.v (.bool false)) ((b, .loop { r2 with state := .done, pending := some (.exit i) }) :: s2.st) s2.nx
    | .ret => K (.v (.bool false)) ((b, .loop { r2 with state := .done, pending := some .ret }) :: s2.st) s2.nx
  | _ => False
def wasgK (P : Program) (C : FuncId → Option Con) (H : WH) (sz pins b : Nat) (body : Code) (K : V → ST → Nat → Prop) (e : AX) (s1 : XS) : Prop := match e with
  | .normal => match look s1.st b with
    | some (.loop r1) => match isReady r1.state with
      | true => wcode P C H sz pins (some b) body (wbodyK b K) ⟨s1.tm, s1.ds, (b, .loop { r1 with state := .busy }) :: s1.st, s1.nx, s1.b0⟩
      | false => False
    | _ => False
  | _ => False
def wrangeK (b : Nat) (tm : TM) (ds : List Nat) (b0 : Nat) (Q : AX → XS → Prop) (_ : V) (st2 : ST) (nx2 : Nat) : Prop := match look st2 b with
  | some (.loop r2) => match isBusy r2.state with
    | true => False
    | false => match r2.pending with
      | none => Q .normal ⟨tm, ds, (b, .loop { r2 with state := .exhausted }) :: st2, nx2, b0⟩
      | some (.exit i) => Q (.exit i) ⟨tm, ds, (b, .loop { r2 with state := .exhausted }) :: st2, nx2, b0⟩
      | some .ret => Q .ret ⟨tm, ds, (b, .loop { r2 with state := .exhausted }) :: st2, nx2, b0⟩
      | _ => False
  | _ => False

variable {Q : AX → XS → Prop} {a b c : Code}
theorem ws_skip (h : Q .normal ⟨tm, ds, st, nx, b0⟩) : wcode P C H sz pins rd .skip Q ⟨tm, ds, st, nx, b0⟩ := h
def wregK (Q : AX → XS → Prop) (ds : List Nat) (b0 : Nat) (tm : TM) (st : ST) (nx : Nat) : Prop := Q .normal ⟨tm, ds, st, nx, b0⟩
theorem w_reg (h : Q .normal ⟨tm, ds, st, nx, b0⟩) : wregK Q ds b0 tm st nx := h
def wregDK (Q : AX → XS → Prop) (ds : List Nat) (b0 nx : Nat) (tm : TM) (st : ST) : Prop := Q .normal ⟨tm, ds, st, nx, b0⟩
theorem w_regD (h : Q .normal ⟨tm, ds, st, nx, b0⟩) : wregDK Q ds b0 nx tm st := h
theorem ws_region {i : Nat} {ops : Array Oper} {l : List Oper} (hl : ops.toList = l) (h : wops P C H sz l l nx tm st (wregK Q ds b0)) : wcode P C H sz pins rd (.region i ops false) Q ⟨tm, ds, st, nx, b0⟩ := by
  subst hl
  exact h
theorem ws_regionD {i : Nat} {ops : Array Oper} {nx' : Nat} (ha : aheadB ops.toList = true) (hn : nx + ops.size = nx') (h : evOpsD P C sz ops nx ops.toList 0 tm st [] (wregDK Q ds b0 nx')) : wcode P C H sz pins rd (.region i ops true) Q ⟨tm, ds, st, nx, b0⟩ := by
  subst hn
  simp only [wcode, ha]
  exact h
theorem ws_seq (h : wcode P C H sz pins rd a (wseqK P C H sz pins rd b Q) ⟨tm, ds, st, nx, b0⟩) : wcode P C H sz pins rd (.seq a b) Q ⟨tm, ds, st, nx, b0⟩ := h
theorem ws_cond {x : Operand} {p : Bool} (hc : ev tm x = .v (.bool p)) (h1 : p = true → wcode P C H sz pins rd a Q ⟨tm, ds, st, nx, b0⟩) (h2 : p = false → wcode P C H sz pins rd b Q ⟨tm, ds, st, nx, b0⟩) : wcode P C H sz pins rd (.cond x a b) Q ⟨tm, ds, st, nx, b0⟩ := by
  simp only [wcode, hc]
  exact br_intro h1 h2
theorem ws_condT {x : Operand} (hc : ev tm x = .v (.bool true)) (h1 : wcode P C H sz pins rd a Q ⟨tm, ds, st, nx, b0⟩) : wcode P C H sz pins rd (.cond x a b) Q ⟨tm, ds, st, nx, b0⟩ := ws_cond hc (fun _ => h1) (fun e => by cases e)
theorem ws_condF {x : Operand} (hc : ev tm x = .v (.bool false)) (h1 : wcode P C H sz pins rd b Q ⟨tm, ds, st, nx, b0⟩) : wcode P C H sz pins rd (.cond x a b) Q ⟨tm, ds, st, nx, b0⟩ := ws_cond hc (fun e => by cases e) (fun _ => h1)
theorem ws_block {i : Nat} (h : wcode P C H sz pins rd a (wblockK i Q) ⟨tm, ds, st, nx, b0⟩) : wcode P C H sz pins rd (.block i a) Q ⟨tm, ds, st, nx, b0⟩ := h
theorem ws_exit {i : Nat} (h : Q (.exit i) ⟨tm, ds, st, nx, b0⟩) : wcode P C H sz pins rd (.exit i) Q ⟨tm, ds, st, nx, b0⟩ := h
theorem ws_ret (h : Q .ret ⟨tm, ds, st, nx, b0⟩) : wcode P C H sz pins rd .ret Q ⟨tm, ds, st, nx, b0⟩ := h
theorem ws_loop {α : Type} {mk : α → LS} {μ : α → Nat} (h0 : ∃ x r, SubF pins ds rd r (mk x).tm (mk x).st (mk x).nx tm st) (h : ∀ x, wcode P C H sz pins rd a (wloopK pins ds rd mk μ x Q) ⟨(mk x).tm, ds, (mk x).st, (mk x).nx, b0⟩) : wcode P C H sz pins rd (.loop a) Q ⟨tm, ds, st, nx, b0⟩ := ⟨α, mk, μ, h0, h⟩
/-- A range over a function, outside rounds and within. -/
theorem ws_range0 {f : Operand} {ps : Array Tmp} {asg body : Code} {g : FuncId} {caps : List V} (hf : ev tm f = .fn g caps)
    (h : H (.fn g caps) [.yld nx] ((nx, .loop ⟨tm, sz, ps, asg, body, .ready, none⟩) :: (nx + 1, .mark true) :: st) (nx + 2) (wrangeK nx tm ((nx + 1) :: ds) b0 Q)) : wcode P C H sz pins none (.rangeFunc f ps asg body) Q ⟨tm, ds, st, nx, b0⟩ := by
  simp only [wcode, xenter, hf]
  exact h
theorem ws_range1 {rb : Nat} {f : Operand} {ps : Array Tmp} {asg body : Code} {g : FuncId} {caps : List V} {r0 : LoopX} (hf : ev tm f = .fn g caps) (hr : look st rb = some (.loop r0))
    (h : H (.fn g caps) [.yld nx] ((nx, .loop ⟨tm, sz, ps, asg, body, .ready, none⟩) :: st) (nx + 1) (wrangeK nx tm ds b0 Q)) : wcode P C H sz pins (some rb) (.rangeFunc f ps asg body) Q ⟨tm, ds, st, nx, b0⟩ := by
  simp only [wcode, xenter, hf, hr]
  exact h

theorem kw_seq (h : wcode P C H sz pins rd b Q ⟨tm, ds, st, nx, b0⟩) : wseqK P C H sz pins rd b Q .normal ⟨tm, ds, st, nx, b0⟩ := h
theorem kw_seqX {i : Nat} (h : Q (.exit i) ⟨tm, ds, st, nx, b0⟩) : wseqK P C H sz pins rd b Q (.exit i) ⟨tm, ds, st, nx, b0⟩ := h
theorem kw_seqR (h : Q .ret ⟨tm, ds, st, nx, b0⟩) : wseqK P C H sz pins rd b Q .ret ⟨tm, ds, st, nx, b0⟩ := h
theorem kw_block {i : Nat} (h : Q .normal ⟨tm, ds, st, nx, b0⟩) : wblockK i Q .normal ⟨tm, ds, st, nx, b0⟩ := h
theorem kw_blockX {i : Nat} (h : Q .normal ⟨tm, ds, st, nx, b0⟩) : wblockK i Q (.exit i) ⟨tm, ds, st, nx, b0⟩ := by simp only [wblockK, decide_true]; exact h
theorem kw_blockY {i j : Nat} (hj : decide (j = i) = false) (h : Q (.exit j) ⟨tm, ds, st, nx, b0⟩) : wblockK i Q (.exit j) ⟨tm, ds, st, nx, b0⟩ := by simp only [wblockK, hj]; exact h
theorem kw_blockR {i : Nat} (h : Q .ret ⟨tm, ds, st, nx, b0⟩) : wblockK i Q .ret ⟨tm, ds, st, nx, b0⟩ := h
theorem kw_loopX {α : Type} {mk : α → LS} {μ : α → Nat} {x : α} {i : Nat} (n : Nat) (hn : nx ≤ n) (h : Q (.exit i) ⟨tm, ds, st, n, b0⟩) {ds' : List Nat} : wloopK pins ds' rd mk μ x Q (.exit i) ⟨tm, ds, st, nx, b0⟩ := ⟨n, hn, h⟩
theorem kw_loopR {α : Type} {mk : α → LS} {μ : α → Nat} {x : α} (n : Nat) (hn : nx ≤ n) (h : Q .ret ⟨tm, ds, st, n, b0⟩) {ds' : List Nat} : wloopK pins ds' rd mk μ x Q .ret ⟨tm, ds, st, nx, b0⟩ := ⟨n, hn, h⟩

theorem kw_fn1 {fn : Func} {K : V → ST → Nat → Prop} {t : Nat} {st1 : ST} {e : AX} (he : (match e with | .exit _ => false | _ => true) = true) (hr : fn.results.toList = [.tmp t]) (hm : xmarks ds st = some st1) (h : (RM.retF ((look tm t).getD .top)).go st1 fun r st2 => K r st2 nx) : wfnK P fn K e ⟨tm, ds, st, nx, b0⟩ := by
  rw [RM.retF_eq] at h
  cases e with
  | exit i => cases he
  | normal => simp only [wfnK, hm, wres, hr]; exact h
  | ret => simp only [wfnK, hm, wres, hr]; exact h
theorem kw_fnC {fn : Func} {K : V → ST → Nat → Prop} {t a : Nat} {st1 : ST} {e : AX} (he : (match e with | .exit _ => false | _ => true) = true) (hr : fn.results.toList = [.cell a t]) (hm : xmarks ds st = some st1) (h : (opR P (fun _ => none) 0 (ev tm) (.load t (.tmp a))).go st1 fun r st2 => K r st2 nx) : wfnK P fn K e ⟨tm, ds, st, nx, b0⟩ := by
  cases e with
  | exit i => cases he
  | normal => simp only [wfnK, hm, wres, hr]; exact h
  | ret => simp only [wfnK, hm, wres, hr]; exact h
def sing : List ResultVar → Bool
  | [_] => true
  | _ => false
theorem kw_fnN {fn : Func} {K : V → ST → Nat → Prop} {l : List ResultVar} {st1 : ST} {e : AX} (he : (match e with | .exit _ => false | _ => true) = true) (hr : fn.results.toList = l) (hs : sing l = false) (hm : xmarks ds st = some st1) (h : (resR P tm l []).go st1 fun r st2 => K r st2 nx) : wfnK P fn K e ⟨tm, ds, st, nx, b0⟩ := by
  have hw : wres P fn tm st1 fun r st2 => K r st2 nx := by
    unfold wres
    rw [hr]
    split
    · cases hs
    · cases hs
    · exact h
  cases e with
  | exit i => cases he
  | normal => simp only [wfnK, hm]; exact hw
  | ret => simp only [wfnK, hm]; exact hw

/-! calls that are followed -/
variable {G : XG} {n : Nat}
theorem w_fn {g : FuncId} {caps avs : List V} {fn : Func} {code : Code} {K : V → ST → Nat → Prop} (hg : G g = some fn) (hb : fn.body = some code) (hl : Nat.ble (avs ++ caps).length fn.ntmps = true) (h : wcode P C (wcall P C G n) fn.ntmps top none code (wfnK P fn K) ⟨startT (avs ++ caps), [], st, top, top⟩) : wcall P C G (n + 1) (.fn g caps) avs st top K := by
  simp only [wcall, hg, hb, wfn, hl]
  exact h
theorem w_yld {b : Nat} {avs : List V} {r : LoopX} {K : V → ST → Nat → Prop} (hl : look st b = some (.loop r)) (hr : isReady r.state = true) (ha : (Nat.beq avs.length r.ps.size && r.ps.toList.all fun p => Nat.ble (p + 1) r.sz) = true)
    (h : wcode P C (wcall P C G n) r.sz top (some b) r.assign (wasgK P C (wcall P C G n) r.sz top b r.body K) ⟨(r.ps.toList.zip avs).foldl (fun t p => p :: t) r.tm, [], st, top, top⟩) : wcall P C G (n + 1) (.yld b) avs st top K := by
  simp only [wcall, wround, hl, hr, ha]
  exact h
theorem w_asg {bx : Nat} {body : Code} {K : V → ST → Nat → Prop} {r1 : LoopX} (hl : look st bx = some (.loop r1)) (hr : isReady r1.state = true) (h : wcode P C H sz pins (some bx) body (wbodyK bx K) ⟨tm, ds, (bx, .loop { r1 with state := .busy }) :: st, nx, b0⟩) : wasgK P C H sz pins bx body K .normal ⟨tm, ds, st, nx, b0⟩ := by
  simp only [wasgK, hl, hr]
  exact h
theorem w_bodyN {bx : Nat} {K : V → ST → Nat → Prop} {r2 : LoopX} (hl : look st bx = some (.loop r2)) (h : K (.v (.bool true)) ((bx, .loop { r2 with state := .ready, pending := none }) :: st) nx) : wbodyK bx K .normal ⟨tm, ds, st, nx, b0⟩ := by
  simp only [wbodyK, hl]
  exact h
theorem w_bodyX {bx i : Nat} {K : V → ST → Nat → Prop} {r2 : LoopX} (hl : look st bx = some (.loop r2)) (h : K (.v (.bool false)) ((bx, .loop { r2 with state := .done, pending := some (.exit i) }) :: st) nx) : wbodyK bx K (.exit i) ⟨tm, ds, st, nx, b0⟩ := by
  simp only [wbodyK, hl]
  exact h
theorem w_bodyR {bx : Nat} {K : V → ST → Nat → Prop} {r2 : LoopX} (hl : look st bx = some (.loop r2)) (h : K (.v (.bool false)) ((bx, .loop { r2 with state := .done, pending := some .ret }) :: st) nx) : wbodyK bx K .ret ⟨tm, ds, st, nx, b0⟩ := by
  simp only [wbodyK, hl]
  exact h
theorem w_rangeN {bx : Nat} {r2 : LoopX} {v : V} (hl : look st bx = some (.loop r2)) (hb : isBusy r2.state = false) (hp : r2.pending = none) (h : Q .normal ⟨tm, ds, (bx, .loop { r2 with state := .exhausted }) :: st, nx, b0⟩) : wrangeK bx tm ds b0 Q v st nx := by
  obtain ⟨t, z, q, a', b', z2, pn⟩ := r2
  simp only at hp hb
  subst hp
  simp only [wrangeK, hl, hb]
  exact h
theorem w_rangeX {bx i : Nat} {r2 : LoopX} {v : V} (hl : look st bx = some (.loop r2)) (hb : isBusy r2.state = false) (hp : r2.pending = some (.exit i)) (h : Q (.exit i) ⟨tm, ds, (bx, .loop { r2 with state := .exhausted }) :: st, nx, b0⟩) : wrangeK bx tm ds b0 Q v st nx := by
  obtain ⟨t, z, q, a', b', z2, pn⟩ := r2
  simp only at hp hb
  subst hp
  simp only [wrangeK, hl, hb]
  exact h
theorem w_rangeR {bx : Nat} {r2 : LoopX} {v : V} (hl : look st bx = some (.loop r2)) (hb : isBusy r2.state = false) (hp : r2.pending = some .ret) (h : Q .ret ⟨tm, ds, (bx, .loop { r2 with state := .exhausted }) :: st, nx, b0⟩) : wrangeK bx tm ds b0 Q v st nx := by
  obtain ⟨t, z, q, a', b', z2, pn⟩ := r2
  simp only at hp hb
  subst hp
  simp only [wrangeK, hl, hb]
  exact h

theorem ws_condTH {x : Operand} {p : Bool} (hp : p = true) (hc : ev tm x = .v (.bool p)) (h1 : wcode P C H sz pins rd a Q ⟨tm, ds, st, nx, b0⟩) : wcode P C H sz pins rd (.cond x a b) Q ⟨tm, ds, st, nx, b0⟩ := ws_condT (by rw [hc, hp]) h1
theorem ws_condFH {x : Operand} {p : Bool} (hp : p = false) (hc : ev tm x = .v (.bool p)) (h1 : wcode P C H sz pins rd b Q ⟨tm, ds, st, nx, b0⟩) : wcode P C H sz pins rd (.cond x a b) Q ⟨tm, ds, st, nx, b0⟩ := ws_condF (by rw [hc, hp]) h1

/-! loops -/
section loops
variable {S E R Γ : Type}
def atK (L : LoopD S E Γ) (kp : ST) (s : S) (g : Γ) : LS := ⟨(L.at_ s g).tm, (L.at_ s g).st ++ kp, (L.at_ s g).nx⟩
theorem ws_loopF {L : LoopD S E Γ} {K : E → Option R} {r : R} {s0 : S} {c : Code} (hF : (loopC L.step s0).bind K = some r) (g0 : Γ) (ren : List (Nat × Nat)) (keep : List Nat) (hs : SubF pins ds rd ren (atK L (keepB keep st) s0 g0).tm (atK L (keepB keep st) s0 g0).st (atK L (keepB keep st) s0 g0).nx tm st)
    (h : ∀ (n : Nat) (s : S) (g : Γ) (x : LoopA L.step K r Γ), x.1.1 = n + 1 → (L.step s).bind (nextF L.step K n) = some r → wcode P C H sz pins rd c (wloopK pins ds rd (fun y : LoopA L.step K r Γ => atK L (keepB keep st) y.1.2.1 y.1.2.2) (fun y => y.1.1) x Q) ⟨(L.at_ s g).tm, ds, (L.at_ s g).st ++ keepB keep st, (L.at_ s g).nx, b0⟩) : wcode P C H sz pins rd (.loop c) Q ⟨tm, ds, st, nx, b0⟩ := by
  obtain ⟨e, he, hk⟩ : ∃ e, loopC L.step s0 = some e ∧ K e = some r := by
    cases hl : loopC L.step s0 with
    | none => rw [hl] at hF; cases hF
    | some e => rw [hl] at hF; exact ⟨e, rfl, hF⟩
  obtain ⟨n, hn⟩ := loopC_ex he
  refine ws_loop (α := LoopA L.step K r Γ) (mk := fun y => atK L (keepB keep st) y.1.2.1 y.1.2.2) (μ := fun y => y.1.1) ⟨⟨(n, s0, g0), by rw [hn]; exact hk⟩, ren, hs⟩ ?_
  rintro ⟨⟨n, s, g⟩, hx⟩
  cases n with
  | zero => cases hx
  | succ n =>
    refine h n s g ⟨(n + 1, s, g), hx⟩ rfl ?_
    simp only [loopN] at hx
    cases hs : L.step s with
    | none => rw [hs] at hx; cases hx
    | some o =>
      rw [hs] at hx
      cases o with
      | inl s' => exact hx
      | inr e => exact hx
theorem kw_loopF {L : LoopD S E Γ} {K : E → Option R} {r : R} {x : LoopA L.step K r Γ} {n : Nat} {s' : S} {kp : ST} (hF : nextF L.step K n (.inl s') = some r) (hx : x.1.1 = n + 1) (g' : Γ) (ren : List (Nat × Nat))
    (hs : SubF pins ds rd ren (atK L kp s' g').tm (atK L kp s' g').st (atK L kp s' g').nx tm st) : wloopK pins ds rd (fun y : LoopA L.step K r Γ => atK L kp y.1.2.1 y.1.2.2) (fun y => y.1.1) x Q .normal ⟨tm, ds, st, nx, b0⟩ :=
  ⟨rfl, (⟨(n, s', g'), hF⟩ : LoopA L.step K r Γ), ren, hs, by show n < x.1.1; omega⟩
end loops
end
/-- The boxes at a loop's head. -/
theorem sW {p : Prop} (c : p := by (repeat (first | exact trivial | refine And.intro (Or.inl ⟨_, _, rfl, rfl, rfl⟩) ?_ | refine And.intro (Or.inr (Or.inl rfl)) ?_ | refine And.intro (Or.inr (Or.inr (Or.inl ⟨_, _, _, _, rfl, rfl, rfl, sC⟩))) ?_ | refine And.intro (Or.inr (Or.inr (Or.inr ⟨rfl, rfl, trivial⟩))) ?_ | refine And.intro (Or.inr (Or.inr (Or.inr ⟨rfl, rfl, rfl⟩))) ?_))) : p := c
/-- All steps that no fact is needed for. -/
theorem sw1 {p q : Prop} (h : q) (c : q → p := by (intro h; (repeat (first | ((with_reducible refine go_ret ?_)) | ((with_reducible refine go_put ?_); (conv => arg 1; whnf)) | ((with_reducible apply go_get); exact rfl; (conv => arg 1; whnf)) | ((with_reducible refine go_req ?_ ?_); exact (of_decide_eq_true rfl); (conv => arg 1; whnf)) | ((with_reducible refine go_req ?_ ?_); exact trivial; (conv => arg 1; whnf)) | ((with_reducible refine go_req ?_ ?_); exact rfl; (conv => arg 1; whnf)) | ((with_reducible refine go_req ?_ ?_); exact (rlen (by intro _; rfl) _); (conv => arg 1; whnf)) | ((with_reducible refine go_req ?_ ?_); exact ⟨rlen (by intro _; rfl) _, by decide⟩; (conv => arg 1; whnf)) | ((with_reducible refine go_reqP ?_ ?_); exact rfl; (conv => arg 1; whnf)) | ((with_reducible refine ops_nil ?_)) | ((with_reducible refine ops_cons ?_ ?_ ?_); exact rfl; exact rfl; (conv => arg 1; whnf)) | ((with_reducible apply ops_take); exact rfl; exact rfl; exact rfl; exact rfl; (conv => arg 1; whnf)) | ((with_reducible apply ops_skip); exact rfl; exact rfl; exact rfl; exact rfl) | ((with_reducible apply ops_skipU); exact rfl; exact rfl; exact rfl; exact rfl) | ((with_reducible refine goT_ret ?_)) | ((with_reducible refine goT_put ?_); (conv => arg 1; whnf)) | ((with_reducible apply goT_get); exact rfl; (conv => arg 1; whnf)) | ((with_reducible refine goT_req ?_ ?_); exact (of_decide_eq_true rfl); (conv => arg 1; whnf)) | ((with_reducible refine goT_req ?_ ?_); exact trivial; (conv => arg 1; whnf)) | ((with_reducible refine goT_req ?_ ?_); exact rfl; (conv => arg 1; whnf)) | ((with_reducible refine goT_req ?_ ?_); exact (rlen (by intro _; rfl) _); (conv => arg 1; whnf)) | ((with_reducible refine goT_req ?_ ?_); exact ⟨rlen (by intro _; rfl) _, by decide⟩; (conv => arg 1; whnf)) | ((with_reducible refine goT_reqP ?_ ?_); exact rfl; (conv => arg 1; whnf)) | ((with_reducible refine d_step ?_ ?_); kernel_rfl) | ((with_reducible refine d_nil ?_)) | ((with_reducible refine d_cons ?_ ?_ ?_); exact rfl; exact rfl; (conv => arg 1; whnf)) | ((conv => arg 6; whnf); (with_reducible refine d_cons ?_ ?_ ?_); exact rfl; exact rfl; (conv => arg 1; whnf)) | ((conv => arg 5; whnf); (with_reducible refine ops_cons ?_ ?_ ?_); exact rfl; exact rfl; (conv => arg 1; whnf)) | ((with_reducible apply d_take); exact rfl; exact rfl; exact rfl; exact rfl; (conv => arg 1; whnf)) | ((with_reducible apply d_skip); exact rfl; exact rfl; exact rfl; exact rfl; (first | exact rfl | kernel_rfl)) | ((with_reducible apply d_skipU); exact rfl; exact rfl; exact rfl; exact rfl; (first | exact rfl | kernel_rfl)) | ((conv => arg 6; whnf); (with_reducible apply d_take); exact rfl; exact rfl; exact rfl; exact rfl; (conv => arg 1; whnf)) | ((conv => arg 6; whnf); (with_reducible apply d_skip); exact rfl; exact rfl; exact rfl; exact rfl; (first | exact rfl | kernel_rfl)) | ((with_reducible refine st_regionD ?_ ?_); kernel_rfl; (conv => arg 6; whnf)) | ((with_reducible refine st_seq ?_)) | ((with_reducible refine st_region rfl rfl ?_); (conv => arg 5; whnf)) | ((with_reducible refine st_block ?_)) | ((with_reducible refine st_skip ?_)) | ((with_reducible refine st_exit ?_)) | ((with_reducible refine st_ret ?_)) | ((with_reducible refine k_seq ?_)) | ((with_reducible refine k_seqX ?_)) | ((with_reducible refine k_seqR ?_)) | ((with_reducible refine k_block ?_)) | ((with_reducible refine k_blockX ?_)) | ((with_reducible refine k_blockY ?_ ?_); exact rfl) | ((with_reducible refine k_blockR ?_)) | ((with_reducible refine k_loopX ?_)) | ((with_reducible refine k_loopR ?_)) | ((with_reducible refine st_condT ?_ ?_); exact rfl) | ((with_reducible refine st_condF ?_ ?_); exact rfl) | ((with_reducible refine wops_k ?_)) | ((with_reducible refine w_reg ?_)) | ((with_reducible refine w_regD ?_)) | ((with_reducible refine wops_nil ?_)) | ((with_reducible refine wops_cons ?_ ?_ ?_); exact rfl; exact rfl) | ((conv => arg 5; whnf); (with_reducible refine wops_cons ?_ ?_ ?_); exact rfl; exact rfl) | ((with_reducible apply wops_take); exact rfl; exact rfl; exact rfl; exact rfl) | ((with_reducible apply wops_skip); exact rfl; exact rfl; exact rfl; exact rfl) | ((with_reducible apply wops_skipU); exact rfl; exact rfl; exact rfl; exact rfl) | ((with_reducible refine wop_plain ?_ ?_); exact rfl; (conv => arg 1; whnf)) | ((with_reducible apply wop_con); exact rfl; exact rfl; exact rfl; (conv => arg 1; whnf)) | ((with_reducible apply wop_inl); exact rfl; exact rfl; exact rfl) | ((with_reducible apply wop_yld); exact rfl; exact rfl) | ((with_reducible refine ws_seq ?_)) | ((with_reducible refine ws_block ?_)) | ((with_reducible refine ws_skip ?_)) | ((with_reducible refine ws_exit ?_)) | ((with_reducible refine ws_ret ?_)) | ((with_reducible refine ws_region rfl ?_); (conv => arg 5; whnf)) | ((with_reducible refine ws_regionD ?_ rfl ?_); kernel_rfl; (conv => arg 6; whnf)) | ((with_reducible refine kw_seq ?_)) | ((with_reducible refine kw_seqX ?_)) | ((with_reducible refine kw_seqR ?_)) | ((with_reducible refine kw_block ?_)) | ((with_reducible refine kw_blockX ?_)) | ((with_reducible refine kw_blockY ?_ ?_); exact rfl) | ((with_reducible refine kw_blockR ?_)) | ((with_reducible refine ws_condT ?_ ?_); exact rfl) | ((with_reducible refine ws_condF ?_ ?_); exact rfl) | ((with_reducible apply ws_range0); exact rfl) | ((with_reducible apply ws_range1); exact rfl; exact rfl) | ((with_reducible apply w_fn); exact rfl; exact rfl; exact rfl) | ((with_reducible apply w_yld); exact rfl; exact rfl; exact rfl; (conv => arg 7; whnf); (conv => arg 9; whnf)) | ((with_reducible apply w_asg); exact rfl; exact rfl) | ((with_reducible apply w_bodyN); exact rfl) | ((with_reducible apply w_bodyX); exact rfl) | ((with_reducible apply w_bodyR); exact rfl) | ((with_reducible apply w_rangeN); exact rfl; exact rfl; exact rfl) | ((with_reducible apply w_rangeX); exact rfl; exact rfl; exact rfl) | ((with_reducible apply w_rangeR); exact rfl; exact rfl; exact rfl) | ((with_reducible apply kw_fn1); exact rfl; exact rfl; exact rfl; (conv => arg 1; whnf)) | ((with_reducible apply kw_fnC); exact rfl; exact rfl; exact rfl; (conv => arg 1; whnf)) | ((with_reducible apply kw_fnN); exact rfl; exact rfl; exact rfl; exact rfl; (conv => arg 1; whnf)))); exact h)) : p := c h

theorem hasIF {P : Program} {C : FuncId → Option Con} {G : XG} (hC : CtxOK P C) (hG : GOK P G) (hmix : P.follows .mixedOrders = true) (n : Nat) {f : FuncId} {fn : Func} {c : Code} (hf : P.funcs[f]? = some fn) (hb : fn.body = some c)
    (hn : (fn.name == "runtime.NumGoroutine") = false) {α β : Type} {F : α → Option β} {enc : α → List V} {er : β → V}
    (h : ∀ x r, (F x).bind some = some r → Nat.ble (enc x).length fn.ntmps = true ∧ wcode P C (wcall P C G n) fn.ntmps 0 none c (wfnK P fn (endI (er r))) ⟨startT (enc x), [], [], 0, 0⟩) : Has P f (conF F enc er) :=
  hasI hC hG hmix n hf hb hn fun x r hF => by
    obtain ⟨h1, h2⟩ := h x r hF
    unfold wfn
    rw [h1]
    exact h2
end Go.Ev
/- Functions that make a list: slices.Clone, slices.Grow of nil. -/
set_option linter.unusedVariables false
namespace Go.Ev
open Go.RowKit

/-- A copy of a list: an empty one may be nil or not. -/
theorem fresh_split {P : Program} {C : FuncId → Option Con} (hC : CtxOK P C) (hmix : P.follows .mixedOrders = true) {f : FuncId} {fn : Func} {c : Code} (hf : P.funcs[f]? = some fn) (hb : fn.body = some c)
    (hn : (fn.name == "runtime.NumGoroutine") = false) {α : Type} {F : List α → Option (List α)} {enc : α → List V} {ty : TypeId} {size : Nat}
    (h1 : ∀ y l r, (F (y :: l)).bind some = some r → 1 ≤ fn.ntmps ∧ awp P C fn.ntmps 0 c (endR fn ty size (.sl (recs enc r) r.length)) (startT [.sl (recs enc (y :: l)) (y :: l).length]) [] 0)
    (h2 : ∀ a cap, 1 ≤ fn.ntmps ∧ awp P C fn.ntmps 0 c (endR fn ty size (.sl [] 0)) (startT [.v (.slice a 0 cap)]) [] 0)
    (h3 : ∀ r, F [] = some r → r = []) : Has P f (conR F (fun l => [.sl (recs enc l) l.length]) (fun r => .sl (recs enc r) r.length) ty size) := by
  refine ⟨?_, enters_ok hf hn (by simp [hb])⟩
  show SoundF P f _ ty size
  rintro ⟨l, r⟩ F0 w vs cs n hF hv hok hres
  have hok : F l = some r := hok
  have hres : V.sl (recs enc r) r.length = .sl cs n := hres
  cases l with
  | cons y l =>
    have hs := soundF_of_awp (con := { α := Unit, enc := fun _ => [.sl (recs enc (y :: l)) (y :: l).length], ok := fun _ => True, res := fun _ => .sl (recs enc r) r.length, frs := .fresh ty size }) (ty := ty) (size := size) hC hmix hf hb
      (fun _ _ => h1 y l r (by rw [hok]; rfl))
    exact hs () F0 w vs cs n hF hv trivial hres
  | nil =>
    have hr := h3 r hok
    subst hr
    have hv : RCs F0 w.heap false [.sl [] 0] vs := hv
    cases vs with
    | nil => simp [RCs] at hv
    | cons x vs =>
      cases vs with
      | cons _ _ => simp [RCs] at hv
      | nil =>
        simp only [RCs] at hv
        obtain ⟨⟨hx, _⟩, _⟩ := hv
        unfold RC at hx
        obtain ⟨a, cap, rfl, _, _, _⟩ := hx
        have hs := soundF_of_awp (con := { α := Unit, enc := fun _ => [.v (.slice a 0 cap)], ok := fun _ => True, res := fun _ => .sl [] 0, frs := .fresh ty size }) (ty := ty) (size := size) hC hmix hf hb (fun _ _ => h2 a cap)
        exact hs () F0 w _ cs n hF ⟨⟨rfl, fun e => by cases e⟩, trivial⟩ trivial hres

/-- The same, made clean where it is handed back. -/
theorem has_keep {P : Program} {f : FuncId} {α β : Type} {F : α → Option β} {enc : α → List V} {er : β → V} {ty : TypeId} {size : Nat} (h : Has P f (conR F enc er ty size)) (he : ∀ r, ∃ cs n, er r = .sl cs n ∧ n * size = cs.length) : Has P f (conF F enc er) := by
  refine ⟨?_, h.2⟩
  show SoundV P f _
  rintro ⟨a, r⟩ F0 w vs hF hv hok
  obtain ⟨cs, n, hres, hlen⟩ := he r
  refine (h.1 (a, r) F0 w vs cs n hF hv hok hres).mono ?_
  rintro e w' ⟨v, F', rfl, hbl, q1, q2, q3, q4⟩
  have hres : (conF F enc er).res (a, r) = .sl cs n := hres
  rcases q4 with ⟨g, cap, cur, p1, rfl, p2, p3, p4, p5, p6, p7, p8, p9⟩ | ⟨rfl, rfl, rfl⟩
  · refine ⟨_, fun k j => F' k j ∨ (k = g ∧ j < cs.length), rfl, hbl, fun k j e => .inl (q1 k j e), ?_, ?_, ?_⟩
    · rintro k j (e | ⟨rfl, _⟩)
      · exact q2 k j e
      · exact .inr p1
    · rintro k j (e | ⟨rfl, _⟩)
      · exact q3 k j e
      · exact p4
    · rw [hres]
      unfold RC
      refine ⟨_, _, rfl, p2, p3, .inr ⟨g, 0, rfl, fun j hj => .inr ⟨rfl, by omega⟩, ?_⟩⟩
      rw [cellsAt_of p5, List.drop_zero]
      exact RCs.mono (fun _ _ => .inl) (Keeps.refl _ _) _ _ p8
  · refine ⟨_, F', rfl, hbl, q1, q2, q3, ?_⟩
    rw [hres]
    unfold RC
    exact ⟨none, 0, rfl, Nat.le_refl _, Nat.zero_le _, .inl rfl⟩

/-- What is asked of a list that is made, calls followed inline. -/
def endIR (ty : TypeId) (size : Nat) (r : V) (v : V) (st : ST) (nx : Nat) : Prop :=
  (∃ b n cs, v = .osl b n ∧ look st b = some (.row ty size cs 0) ∧ n * size = cs.length ∧ r = .sl cs n) ∨ (v = .v (.slice none 0 0) ∧ r = .sl [] 0)
theorem hasIR {P : Program} {C : FuncId → Option Con} {G : XG} (hC : CtxOK P C) (hG : GOK P G) (hmix : P.follows .mixedOrders = true) (n : Nat) {f : FuncId} {fn : Func} {c : Code} (hf : P.funcs[f]? = some fn) (hb : fn.body = some c)
    (hn : (fn.name == "runtime.NumGoroutine") = false) {α β : Type} {F : α → Option β} {enc : α → List V} {er : β → V} {ty : TypeId} {size : Nat}
    (h : ∀ x r, (F x).bind some = some r → Nat.ble (enc x).length fn.ntmps = true ∧ wcode P C (wcall P C G n) fn.ntmps 0 none c (wfnK P fn (endIR ty size (er r))) ⟨startT (enc x), [], [], 0, 0⟩) : Has P f (conR F enc er ty size) := by
  refine ⟨?_, enters_ok hf hn (by simp [hb])⟩
  show SoundF P f _ ty size
  rintro ⟨x, y⟩ F1 w vs cs n' hF hv hok hres
  have hok : F x = some y := hok
  have hres : er y = .sl cs n' := hres
  obtain ⟨hx0, hx1⟩ := h x y (by rw [hok]; rfl)
  have hx : wfn P C (wcall P C G n) fn c (enc x) [] 0 (endIR ty size (er y)) := by
    unfold wfn
    rw [hx0]
    exact hx1
  have hR : RelH (fun k => w.heap.size ≤ k) w F1 (fun _ => none) 0 F1 (fun _ => none) [] w :=
    { htm := fun i => trivial, hsz := rfl, hde := rfl, hst := fun b x hx => by simp at hx, inj := fun b b' g c c' _ _ hm => (by cases hm), fresh := fun b _ => ⟨rfl, rfl⟩, pin := fun b y e => (by cases e), keep := Keeps.refl _ _, f0 := fun _ _ e => e, f1 := fun _ _ e => .inl e, f2 := hF, mlt := fun b g c hm => (by cases hm), below := Own.refl _ _, hb := fun _ e => e }
  have hv' : RVl (fun _ => none) F1 w.heap (enc x) vs := by
    have := RCs_iff.1 hv
    exact ⟨this.1, fun i c x hc hx => RV.of_RC (this.2 i c x hc hx).1⟩
  refine (wfn_ok hC (wcall_ok hC hG hmix n) hmix hf hb hx _ F1 _ w vs hR hv').mono ?_
  rintro e w' ⟨v, F', m', r1, st', top', rfl, hk, hR', hr⟩
  refine ⟨v, F', rfl, hR'.below.below, hR'.f0, hR'.f1, hR'.f2, fresh_end hR' (fun g e => e) hr ?_⟩
  rw [← hres]
  exact hk
end Go.Ev
/- Runs in which some calls are known already. -/
set_option linter.unusedVariables false
set_option linter.unusedSimpArgs false
namespace Go.Ev
open Go.RowKit
noncomputable section

def beqI : Int → Int → Bool
  | .ofNat m, .ofNat n => Nat.beq m n
  | .negSucc m, .negSucc n => Nat.beq m n
  | _, _ => false
theorem beqI_eq {a b : Int} (h : beqI a b = true) : a = b := by
  unfold beqI at h
  split at h
  · rw [Nat.eq_of_beq_eq_true h]
  · rw [Nat.eq_of_beq_eq_true h]
  · cases h
def beqB : Bool → Bool → Bool
  | true, true => true
  | false, false => true
  | _, _ => false
theorem beqB_eq {a b : Bool} (h : beqB a b = true) : a = b := by cases a <;> cases b <;> first | rfl | cases h
mutual
def beqV : V → V → Bool
  | .v (.int j a), c => match c with
    | .v (.int k b) => decide (j = k) && beqI a b
    | _ => false
  | .v (.bool a), c => match c with
    | .v (.bool b) => beqB a b
    | _ => false
  | .v (.slice none 0 0), c => isNil c
  | .agg cs, c => match c with
    | .agg ds => beqL cs ds
    | _ => false
  | .tup cs, c => match c with
    | .tup ds => beqL cs ds
    | _ => false
  | .sl cs n, c => match c with
    | .sl ds k => Nat.beq n k && beqL cs ds
    | _ => false
  | _, _ => false
def beqL : List V → List V → Bool
  | [], l => match l with
    | [] => true
    | _ => false
  | c :: cs, l => match l with
    | d :: ds => beqV c d && beqL cs ds
    | [] => false
end
mutual
theorem beqV_eq : ∀ (a b : V), beqV a b = true → a = b
  | .v (.int j a), c, h => by
    unfold beqV at h
    split at h
    · simp only [Bool.and_eq_true, decide_eq_true_eq] at h
      rw [h.1, beqI_eq h.2]
    · cases h
  | .v (.bool a), c, h => by
    unfold beqV at h
    split at h
    · rw [beqB_eq h]
    · cases h
  | .v (.slice none 0 0), c, h => by
    unfold beqV at h
    exact (isNil_eq h).symm
  | .agg cs, c, h => by
    unfold beqV at h
    split at h
    · rw [beqL_eq cs _ h]
    · cases h
  | .tup cs, c, h => by
    unfold beqV at h
    split at h
    · rw [beqL_eq cs _ h]
    · cases h
  | .sl cs n, c, h => by
    unfold beqV at h
    split at h
    · simp only [Bool.and_eq_true] at h
      rw [Nat.eq_of_beq_eq_true h.1, beqL_eq cs _ h.2]
    · cases h
  | .top, c, h => by unfold beqV at h; cases h
  | .fptr cs, c, h => by unfold beqV at h; cases h
  | .fn g caps, c, h => by unfold beqV at h; cases h
  | .box b o, c, h => by unfold beqV at h; cases h
  | .osl b n, c, h => by unfold beqV at h; cases h
  | .yld b, c, h => by unfold beqV at h; cases h
  | .v x, c, h => by
    unfold beqV at h
    split at h
    · next j a e => cases e; split at h
                    · simp only [Bool.and_eq_true, decide_eq_true_eq] at h
                      rw [h.1, beqI_eq h.2]
                    · cases h
    · next a e => cases e; split at h
                  · rw [beqB_eq h]
                  · cases h
    · next e => cases e; exact (isNil_eq h).symm
    · next e => cases e
    · next e => cases e
    · next e => cases e
    · cases h
theorem beqL_eq : ∀ (a b : List V), beqL a b = true → a = b
  | [], l, h => by
    unfold beqL at h
    split at h
    · rfl
    · cases h
  | c :: cs, l, h => by
    unfold beqL at h
    split at h
    · next d ds =>
      simp only [Bool.and_eq_true] at h
      rw [beqV_eq c d h.1, beqL_eq cs ds h.2]
    · cases h
end

abbrev MemoL := List (FuncId × List V × V)
def memo : MemoL → FuncId → List V → Option V
  | [], _, _ => none
  | (g, args, r) :: l, f, avs => match Nat.beq g f && beqL args avs with
    | true => some r
    | false => memo l f avs
def hasM : MemoL → FuncId → Bool
  | [], _ => false
  | (g, _, _) :: l, f => match Nat.beq g f with
    | true => true
    | false => hasM l f

section
variable {P : Program} {G : XG}
def MOK (P : Program) (l : MemoL) : Prop := ∀ g args r, (g, args, r) ∈ l → Has P g { α := Unit, enc := fun _ => args, ok := fun _ => True, res := fun _ => r }
theorem mok_nil : MOK P [] := fun _ _ _ h => by cases h
theorem mok_cons {g : FuncId} {args : List V} {r : V} {l : MemoL} (h : Has P g { α := Unit, enc := fun _ => args, ok := fun _ => True, res := fun _ => r }) (k : MOK P l) : MOK P ((g, args, r) :: l) := by
  intro g' args' r' hm
  cases hm with
  | head => exact h
  | tail _ hm => exact k _ _ _ hm
theorem memo_mem : ∀ {l : MemoL} {g : FuncId} {avs : List V} {r : V}, memo l g avs = some r → (g, avs, r) ∈ l
  | [], _, _, _, h => by cases h
  | (g', args, r') :: l, g, avs, r, h => by
    unfold memo at h
    split at h
    · next e =>
      simp only [Bool.and_eq_true] at e
      cases h
      rw [Nat.eq_of_beq_eq_true e.1, beqL_eq _ _ e.2]
      exact List.mem_cons_self
    · exact List.mem_cons_of_mem _ (memo_mem h)
theorem hasM_mem : ∀ {l : MemoL} {g : FuncId}, hasM l g = true → ∃ args r, (g, args, r) ∈ l
  | [], _, h => by cases h
  | (g', args, r') :: l, g, h => by
    unfold hasM at h
    split at h
    · next e => rw [← Nat.eq_of_beq_eq_true e]; exact ⟨_, _, List.mem_cons_self⟩
    · obtain ⟨a, r, hm⟩ := hasM_mem h; exact ⟨a, r, List.mem_cons_of_mem _ hm⟩
theorem memo_sound {l : MemoL} (hl : MOK P l) (g : FuncId) : SoundV P g (conX (memo l g)) := by
  rintro ⟨avs, r⟩ F w vs hF hv hok
  exact (hl g avs r (memo_mem hok)).1 () F w vs hF hv trivial

def hM (l : MemoL) (H : XH) : XH := fun c avs st top => match c with
  | .fn g caps => match hasM l g with
    | true => match (fzs (avs ++ caps) fun avs' => match memo l g avs' with
        | some r => .retF r
        | none => .fail).x st with
      | some (r, st') => kV r fun r => kS st' fun st' => some (r, st', top)
      | none => H (.fn g caps) avs st top
    | false => H (.fn g caps) avs st top
  | c => H c avs st top
def xM (l : MemoL) (X : FuncId → Option (List V → Option V)) : FuncId → Option (List V → Option V) := fun g => match hasM l g with
  | true => some (memo l g)
  | false => X g

theorem hM_ok {l : MemoL} (hl : MOK P l) {H : XH} (hH : HOK P H) : HOK P (hM l H) := by
  intro c avs st top r st' top' h
  unfold hM at h
  split at h
  · next g caps =>
    split at h
    · next hg =>
      split at h
      · next r1 st1 h1 =>
        simp only [kV_eq, kS_eq] at h
        cases h
        obtain ⟨a0, r0, hm0⟩ := hasM_mem hg
        refine ⟨(hl g a0 r0 hm0).2, ?_⟩
        intro O F m w vs hR hv
        have hgo := RM.x_go (K := fun v s => v = r ∧ s = st') _ _ _ _ h1 ⟨rfl, rfl⟩
        obtain ⟨F1, st1, avs1, q1, e1, q2, q3, _⟩ := mapRM_sound (fz_sound 4) _ _ _ st F _ hR hv.1 hv.2 hgo
        split at q3
        · next r2 h2 =>
          rw [RM.retF_eq] at q3
          obtain ⟨rfl, rfl⟩ := q3
          refine (memo_sound hl g (avs1, r2) F1 w vs q1.f2 q2 h2).mono ?_
          rintro e w' ⟨v, F', rfl, hbl, p1, p2, p3, p4⟩
          exact ⟨v, F', m, rfl, q1.later hbl p1 p2 p3, RV.of_RC p4⟩
        · cases q3
      · exact hH _ _ _ _ _ _ _ h
    · exact hH _ _ _ _ _ _ _ h
  · exact hH _ _ _ _ _ _ _ h

theorem ctx_m {l : MemoL} (hl : MOK P l) {X : FuncId → Option (List V → Option V)} (hX : CtxOK P (ctxX X)) : CtxOK P (ctxX (xM l X)) := by
  intro g c hc
  unfold ctxX xM at hc
  cases hg : hasM l g with
  | true =>
    simp [hg] at hc
    subst hc
    obtain ⟨a0, r0, hm0⟩ := hasM_mem hg
    exact ⟨memo_sound hl g, (hl g a0 r0 hm0).2⟩
  | false =>
    simp [hg] at hc
    exact hX g c (by unfold ctxX; exact hc)

/-- A call, some calls within it known. -/
def xtop (P : Program) (G : XG) (l : MemoL) (fuel n : Nat) : XH := fun c avs st top => match c with
  | .fn g caps => match G g with
    | some fn => match fn.body with
      | some code => xfn P (hM l (xcall P G fuel n)) (xM l (xpures P G (xcall P G fuel n))) fuel fn code (avs ++ caps) st top
      | none => none
    | none => none
  | _ => none
theorem xtop_ok (hG : GOK P G) (hmix : P.follows .mixedOrders = true) {l : MemoL} (hl : MOK P l) (fuel n : Nat) : HOK P (xtop P G l fuel n) := by
  intro c avs st top r st' top' h
  simp only [xtop] at h
  split at h
  · next g caps =>
    split at h
    · next fn hg =>
      split at h
      · next code hb =>
        have ih := xcall_ok hG hmix fuel n
        exact ⟨(hG g fn hg).2, xfn_ok (hM_ok hl ih) (ctx_m hl (ctx_x hG ih)) hmix (hG g fn hg).1 hb h⟩
      · cases h
    · cases h
  · cases h
theorem has_m (hG : GOK P G) (hmix : P.follows .mixedOrders = true) {l : MemoL} (hl : MOK P l) {fuel n : Nat} {f : FuncId} {args : List V} {r : V} (h : xpure P (xtop P G l fuel n) f args = some r) (hf : (G f).isSome = true) :
    Has P f { α := Unit, enc := fun _ => args, ok := fun _ => True, res := fun _ => r } := by
  obtain ⟨fn, hfn⟩ := Option.isSome_iff_exists.1 hf
  refine ⟨?_, (hG f fn hfn).2⟩
  show SoundV P f _
  intro x F w vs hF hv _
  exact soundV_x (xtop_ok hG hmix hl fuel n) f (args, r) F w vs hF hv h
end
end
end Go.Ev
/- A machine that mirrors the model's, its blocks under names of its own: values, boxes, what it means that a run follows it. -/
set_option linter.unusedVariables false
set_option linter.unusedSimpArgs false
namespace Go.Ev.Mi
open Go.RowKit

inductive W where
  | top
  | v (x : Value)
  | agg (cs : List W)
  | tup (cs : List W)
  | ptr (b off : Nat)
  | sl (b off n : Nat) (cap : Option Nat)
  | mp (b : Nat)
  | fn (g : FuncId) (caps : List W)
  | yld (b : Nat)
  | ifc (t : TypeId) (x : W)
  deriving Inhabited

/-- A name's block; how many elements it has room for. -/
abbrev MM := Nat → Option (Nat × Nat)

mutual
def RW (m : MM) : W → Value → Prop
  | .top, _ => True
  | .v y, x => x = y
  | .agg cs, x => ∃ arr, x = .agg arr ∧ RWs m true cs arr.toList
  | .tup cs, x => ∃ arr, x = .tuple arr ∧ RWs m false cs arr.toList
  | .ptr b off, x => ∃ g C, m b = some (g, C) ∧ x = .pointer (some ⟨g, off, none⟩)
  | .sl b off n cap, x => ∃ g C o c, m b = some (g, C) ∧ x = .slice (some ⟨g, o, none⟩) n c ∧ (o = off ∨ c = 0) ∧ n ≤ c ∧ c ≤ maxLen ∧ (∀ k, cap = some k → c = k) ∧ (cap = none → off = 0 → c = C)
  | .mp b, x => ∃ g C, m b = some (g, C) ∧ x = .map (some g)
  | .fn f caps, x => ∃ arr, x = .func (.func f) #[] arr ∧ RWs m false caps arr.toList
  | .yld b, x => ∃ g C, m b = some (g, C) ∧ x = .func (.yield g) #[] #[]
  | .ifc t c, x => ∃ y, x = .iface t y ∧ RW m c y
def RWs (m : MM) (one : Bool) : List W → List Value → Prop
  | [], [] => True
  | c :: cs, x :: xs => (RW m c x ∧ (one = true → x.oneCell' = true)) ∧ RWs m one cs xs
  | _, _ => False
end

theorem RWs_iff {m : MM} {one : Bool} : ∀ {cs : List W} {xs : List Value},
    RWs m one cs xs ↔ (cs.length = xs.length ∧ ∀ (i : Nat) (c : W) (x : Value), cs[i]? = some c → xs[i]? = some x → RW m c x ∧ (one = true → x.oneCell' = true))
  | [], [] => by simp [RWs]
  | [], _ :: _ => by simp [RWs]
  | _ :: _, [] => by simp [RWs]
  | c :: cs, x :: xs => by
    simp only [RWs, List.length_cons, RWs_iff (cs := cs) (xs := xs)]
    constructor
    · rintro ⟨h0, h1, h2⟩
      refine ⟨by omega, fun i c' x' hc hx => ?_⟩
      cases i with
      | zero => simp at hc hx; subst hc hx; exact h0
      | succ i => simp at hc hx; exact h2 i c' x' hc hx
    · rintro ⟨h1, h2⟩
      exact ⟨h2 0 c x rfl rfl, by omega, fun i c' x' hc hx => h2 (i + 1) c' x' (by simpa using hc) (by simpa using hx)⟩

theorem RWs_length {m : MM} {one : Bool} {cs : List W} {xs : List Value} (h : RWs m one cs xs) : cs.length = xs.length := (RWs_iff.1 h).1

mutual
theorem RW.mono {m m' : MM} (hm : ∀ b y, m b = some y → m' b = some y) : ∀ (c : W) (x : Value), RW m c x → RW m' c x
  | .top, _, _ => by simp [RW]
  | .v y, x, h => by simpa [RW] using h
  | .agg cs, x, h => by
    simp only [RW] at h ⊢
    obtain ⟨arr, rfl, h⟩ := h
    exact ⟨arr, rfl, RWs.mono hm cs _ h⟩
  | .tup cs, x, h => by
    simp only [RW] at h ⊢
    obtain ⟨arr, rfl, h⟩ := h
    exact ⟨arr, rfl, RWs.mono hm cs _ h⟩
  | .ptr b off, x, h => by
    simp only [RW] at h ⊢
    obtain ⟨g, C, h1, h2⟩ := h
    exact ⟨g, C, hm _ _ h1, h2⟩
  | .sl b off n cap, x, h => by
    simp only [RW] at h ⊢
    obtain ⟨g, C, o, c, h1, h2⟩ := h
    exact ⟨g, C, o, c, hm _ _ h1, h2⟩
  | .mp b, x, h => by
    simp only [RW] at h ⊢
    obtain ⟨g, C, h1, h2⟩ := h
    exact ⟨g, C, hm _ _ h1, h2⟩
  | .fn f caps, x, h => by
    simp only [RW] at h ⊢
    obtain ⟨arr, rfl, h⟩ := h
    exact ⟨arr, rfl, RWs.mono hm caps _ h⟩
  | .yld b, x, h => by
    simp only [RW] at h ⊢
    obtain ⟨g, C, h1, h2⟩ := h
    exact ⟨g, C, hm _ _ h1, h2⟩
  | .ifc t c, x, h => by
    simp only [RW] at h ⊢
    obtain ⟨y, rfl, h⟩ := h
    exact ⟨y, rfl, RW.mono hm c y h⟩
theorem RWs.mono {m m' : MM} {one : Bool} (hm : ∀ b y, m b = some y → m' b = some y) : ∀ (cs : List W) (xs : List Value), RWs m one cs xs → RWs m' one cs xs
  | [], [], _ => by simp [RWs]
  | c :: cs, x :: xs, h => by
    simp only [RWs] at h ⊢
    exact ⟨⟨RW.mono hm c x h.1.1, h.1.2⟩, RWs.mono hm cs xs h.2⟩
  | [], _ :: _, h => by simp [RWs] at h
  | _ :: _, [], h => by simp [RWs] at h
end

theorem RWs_drop {m : MM} {one : Bool} {cs : List W} {xs : List Value} (h : RWs m one cs xs) (n : Nat) : RWs m one (cs.drop n) (xs.drop n) := by
  rw [RWs_iff] at h ⊢
  refine ⟨by simp [h.1], fun i c x hc hx => ?_⟩
  rw [List.getElem?_drop] at hc hx
  exact h.2 _ c x hc hx
theorem RWs_take {m : MM} {one : Bool} {cs : List W} {xs : List Value} (h : RWs m one cs xs) (n : Nat) : RWs m one (cs.take n) (xs.take n) := by
  rw [RWs_iff] at h ⊢
  refine ⟨by simp [h.1], fun i c x hc hx => ?_⟩
  rw [List.getElem?_take] at hc hx
  split at hc
  · next hi => rw [if_pos hi] at hx; exact h.2 _ c x hc hx
  · cases hc
theorem RWs_append {m : MM} {one : Bool} {cs ds : List W} {xs ys : List Value} (h : RWs m one cs xs) (k : RWs m one ds ys) : RWs m one (cs ++ ds) (xs ++ ys) := by
  rw [RWs_iff] at h k ⊢
  refine ⟨by simp [h.1, k.1], fun i c x hc hx => ?_⟩
  by_cases hi : i < cs.length
  · rw [List.getElem?_append_left hi] at hc
    rw [List.getElem?_append_left (by omega)] at hx
    exact h.2 i c x hc hx
  · rw [List.getElem?_append_right (by omega)] at hc
    rw [List.getElem?_append_right (by omega), ← h.1] at hx
    exact k.2 _ c x hc hx
theorem RWs_weak {m : MM} {one : Bool} {cs : List W} {xs : List Value} (h : RWs m one cs xs) : RWs m false cs xs := by
  rw [RWs_iff] at h ⊢
  exact ⟨h.1, fun i c x hc hx => ⟨(h.2 i c x hc hx).1, fun e => by cases e⟩⟩
theorem RWs_ones {m : MM} {cs : List W} {xs : List Value} (h : RWs m true cs xs) : ∀ u ∈ xs, u.oneCell' = true := by
  intro u hu
  obtain ⟨i, hi⟩ := List.getElem?_of_mem hu
  rw [RWs_iff] at h
  have hi' : i < cs.length := by rw [h.1]; exact (List.getElem?_eq_some_iff.1 hi).1
  exact (h.2 i _ u (List.getElem?_eq_getElem hi') hi).2 rfl
theorem RWs_splice {m : MM} {one : Bool} {cs new : List W} {xs ys : List Value} {off n : Nat} (h : RWs m one cs xs) (k : RWs m one new ys) :
    RWs m one (cs.take off ++ new ++ cs.drop (off + n)) (xs.take off ++ ys ++ xs.drop (off + n)) :=
  RWs_append (RWs_append (RWs_take h off) k) (RWs_drop h (off + n))
theorem RWs_vals {m : MM} {xs : List Value} (h : ∀ x ∈ xs, x.oneCell' = true) : RWs m true (xs.map W.v) xs := by
  rw [RWs_iff]
  refine ⟨by simp, fun i c x hc hx => ?_⟩
  rw [List.getElem?_map, hx] at hc
  cases hc
  exact ⟨rfl, fun _ => h _ (List.mem_of_getElem? hx)⟩

/-- The record of a range over a function. -/
structure LoopM where
  tm : List (Nat × W)
  sz : Nat
  ps : Array Tmp
  assign : Code
  body : Code
  state : LoopState
  pending : Option Code

inductive B where
  | cells (cs : List W) (e : TypeId) (size : Nat)
  | map (es : List (Value × W × Nat)) (clock : Nat)
  | loop (r : LoopM)
  | mark (open_ : Bool)
  | dead
  deriving Inhabited

abbrev TW := List (Nat × W)
abbrev SB := List (Nat × B)

def RE (m : MM) (e : Value × W × Nat) (x : MapEntry) : Prop := x.key = e.1 ∧ RW m e.2.1 x.val ∧ x.born = e.2.2

def RB (O : Nat → Prop) (m : MM) (H : Array Obj) (b : Nat) : B → Prop
  | .cells cs e size => ∃ g C arr, m b = some (g, C) ∧ O g ∧ H[g]? = some (.cells arr e (0, 0)) ∧ RWs m true cs (arr.toList.take cs.length) ∧ (size ≠ 0 → arr.size = C * size)
  | .map es clock => ∃ g C arr, m b = some (g, C) ∧ O g ∧ H[g]? = some (.map arr clock) ∧ es.length = arr.size ∧ ∀ (i : Nat) (e : Value × W × Nat) (x : MapEntry), es[i]? = some e → arr[i]? = some x → RE m e x
  | .loop r => ∃ g C l, m b = some (g, C) ∧ O g ∧ H[g]? = some (.loop l) ∧ l.state = r.state ∧ l.pending = r.pending ∧ l.params = r.ps ∧ l.assign = r.assign ∧ l.body = r.body ∧
      l.tmps.size = r.sz ∧ ∀ i, RW m ((look r.tm i).getD .top) (l.tmps.getD i undef)
  | .mark p => ∃ g C, m b = some (g, C) ∧ O g ∧ H[g]? = some (.deferred (if p then some [] else none))
  | .dead => True

theorem RB.mono {O O' : Nat → Prop} {m m' : MM} {H H' : Array Obj} {b : Nat} {x : B} (h : RB O m H b x) (hm : ∀ b y, m b = some y → m' b = some y) (hb : ∀ g C, m b = some (g, C) → O g → H'[g]? = H[g]? ∧ O' g) : RB O' m' H' b x := by
  cases x with
  | cells cs e size =>
    obtain ⟨g, C, arr, h1, h2, h3, h4⟩ := h
    exact ⟨g, C, arr, hm _ _ h1, (hb g C h1 h2).2, by rw [(hb g C h1 h2).1]; exact h3, RWs.mono hm _ _ h4.1, h4.2⟩
  | map es clock =>
    obtain ⟨g, C, arr, h1, h2, h3, h4, h5⟩ := h
    exact ⟨g, C, arr, hm _ _ h1, (hb g C h1 h2).2, by rw [(hb g C h1 h2).1]; exact h3, h4, fun i e x he hx => ⟨(h5 i e x he hx).1, RW.mono hm _ _ (h5 i e x he hx).2.1, (h5 i e x he hx).2.2⟩⟩
  | loop r =>
    obtain ⟨g, C, l, h1, h2, h3, h4, h5, h6, h7, h8, h9, h10⟩ := h
    exact ⟨g, C, l, hm _ _ h1, (hb g C h1 h2).2, by rw [(hb g C h1 h2).1]; exact h3, h4, h5, h6, h7, h8, h9, fun i => RW.mono hm _ _ (h10 i)⟩
  | mark p =>
    obtain ⟨g, C, h1, h2, h3⟩ := h
    exact ⟨g, C, hm _ _ h1, (hb g C h1 h2).2, by rw [(hb g C h1 h2).1]; exact h3⟩
  | dead => trivial

theorem RB.at {O : Nat → Prop} {m : MM} {H : Array Obj} {b : Nat} {x : B} (hx : x ≠ .dead) (h : RB O m H b x) : ∃ g C, m b = some (g, C) ∧ O g := by
  cases x with
  | cells cs e size => obtain ⟨g, C, arr, h1, h2, _⟩ := h; exact ⟨g, C, h1, h2⟩
  | map es clock => obtain ⟨g, C, arr, h1, h2, _⟩ := h; exact ⟨g, C, h1, h2⟩
  | loop r => obtain ⟨g, C, l, h1, h2, _⟩ := h; exact ⟨g, C, h1, h2⟩
  | mark p => obtain ⟨g, C, h1, h2, _⟩ := h; exact ⟨g, C, h1, h2⟩
  | dead => exact absurd rfl hx

def alive (st : SB) (b : Nat) : Prop := ∃ x, look st b = some x ∧ x ≠ .dead

/-- N0: names from here on may be given anew. -/
structure RelM (O : Nat → Prop) (w0 : World) (M0 : MM) (N0 : Nat) (U : Nat → Prop) (m : MM) (sz : Nat) (tm : TW) (st : SB) (a : Act) (w : World) : Prop where
  htm : ∀ i, RW m ((look tm i).getD .top) (a.tmps.getD i undef)
  hsz : a.tmps.size = sz
  hst : ∀ b x, look st b = some x → RB O m w.heap b x
  inj : ∀ b b' g c c', alive st b → alive st b' → m b = some (g, c) → m b' = some (g, c') → b = b'
  fresh : ∀ b, U b → look st b = none ∧ m b = none
  un : ∀ b, U b → N0 ≤ b
  mlt : ∀ b g c, m b = some (g, c) → g < w.heap.size
  pin : ∀ b g, M0 b = some g → m b = some g
  low : ∀ b g, m b = some g → M0 b = some g ∨ N0 ≤ b
  below : Own O w0 w
  hb : ∀ g, w0.heap.size ≤ g → O g

section
variable {O : Nat → Prop} {w0 : World} {M0 : MM} {N0 : Nat} {U : Nat → Prop} {m : MM} {sz : Nat} {tm : TW} {st : SB} {a : Act} {w : World}

def putW (tm : TW) (d : Option Nat) (v : W) : TW := match d with
  | some i => (i, v) :: tm
  | none => tm

theorem RelM.put (h : RelM O w0 M0 N0 U m sz tm st a w) {d : Option Nat} (hd : okDst sz d = true) {c : W} {x : Value} (hx : RW m c x) :
    RelM O w0 M0 N0 U m sz (putW tm d c) st (a.put d x) w := by
  cases d with
  | none => exact h
  | some i =>
    have hi : i < a.tmps.size := by have := h.hsz; simp [okDst] at hd; omega
    refine { h with htm := fun j => ?_, hsz := by simp [Act.put, h.hsz] }
    simp only [putW, look_cons, Act.put]
    by_cases hij : i = j
    · subst hij
      simp only [if_true, Option.getD_some]
      simpa [Array.getD, hi] using hx
    · simp only [if_neg hij]
      have := h.htm j
      simpa [Array.getD_eq_getD_getElem?, Array.getElem?_setIfInBounds, hij] using this

theorem RelM.weakU (h : RelM O w0 M0 N0 U m sz tm st a w) {U' : Nat → Prop} (hU : ∀ b, U' b → U b) : RelM O w0 M0 N0 U' m sz tm st a w :=
  { h with fresh := fun b hb => h.fresh b (hU b hb), un := fun b hb => h.un b (hU b hb) }

theorem RelM.drew (h : RelM O w0 M0 N0 U m sz tm st a w) : RelM O w0 M0 N0 U m sz tm st a w.drew :=
  { h with below := h.below.drew }

theorem RelM.act (h : RelM O w0 M0 N0 U m sz tm st a w) {sz' : Nat} {tm' : TW} {a' : Act} (htm : ∀ i, RW m ((look tm' i).getD .top) (a'.tmps.getD i undef)) (hsz : a'.tmps.size = sz') :
    RelM O w0 M0 N0 U m sz' tm' st a' w := { h with htm := htm, hsz := hsz }

theorem RelM.congr (h : RelM O w0 M0 N0 U m sz tm st a w) {st' : SB} (hl : ∀ b, look st' b = look st b) : RelM O w0 M0 N0 U m sz tm st' a w := by
  have hal : ∀ b, alive st' b → alive st b := by rintro b ⟨x, hx, h0⟩; exact ⟨x, by rw [← hl]; exact hx, h0⟩
  exact { h with hst := fun b x hx => h.hst b x (by rw [← hl]; exact hx), inj := fun b b' g c c' a1 a2 => h.inj b b' g c c' (hal b a1) (hal b' a2), fresh := fun b hb => ⟨by rw [hl]; exact (h.fresh b hb).1, (h.fresh b hb).2⟩ }

theorem RelM.congrT (h : RelM O w0 M0 N0 U m sz tm st a w) {tm' : TW} (hl : ∀ i, look tm' i = look tm i) : RelM O w0 M0 N0 U m sz tm' st a w :=
  h.act (fun i => by rw [hl]; exact h.htm i) h.hsz

theorem RelM.own_new (h : RelM O w0 M0 N0 U m sz tm st a w) : O w.heap.size := h.hb _ h.below.size

/-- Some boxes are no longer looked at. -/
theorem RelM.fewer (h : RelM O w0 M0 N0 U m sz tm st a w) {st' : SB} (hl : ∀ b x, look st' b = some x → look st b = some x) : RelM O w0 M0 N0 U m sz tm st' a w := by
  have hal : ∀ b, alive st' b → alive st b := by rintro b ⟨x, hx, h0⟩; exact ⟨x, hl b x hx, h0⟩
  refine { h with hst := fun b x hx => h.hst b x (hl b x hx), inj := fun b b' g c c' a1 a2 => h.inj b b' g c c' (hal b a1) (hal b' a2), fresh := fun b hb => ⟨?_, (h.fresh b hb).2⟩ }
  cases e : look st' b with
  | none => rfl
  | some x => have := hl b x e; rw [(h.fresh b hb).1] at this; cases this

/-- A new block. -/
theorem RelM.new (h : RelM O w0 M0 N0 U m sz tm st a w) {id : Nat} (cap : Nat) (hU : U id) {o : Obj} {x : B} (hx : x ≠ .dead)
    (hbx : ∀ m', (∀ b y, m b = some y → m' b = some y) → m' id = some (w.heap.size, cap) → (w.alloc o).heap[w.heap.size]? = some o → RB O m' (w.alloc o).heap id x) :
    RelM O w0 M0 N0 (fun b => U b ∧ b ≠ id) (fun b => if b = id then some (w.heap.size, cap) else m b) sz tm ((id, x) :: st) a (w.alloc o) ∧
    (∀ b y, m b = some y → (fun b => if b = id then some (w.heap.size, cap) else m b) b = some y) := by
  have hm : ∀ b y, m b = some y → (fun b => if b = id then some (w.heap.size, cap) else m b) b = some y := by
    intro b y hb
    by_cases e : b = id
    · subst e; rw [(h.fresh b hU).2] at hb; cases hb
    · simp [e, hb]
  have hold : ∀ k, k < w.heap.size → (w.alloc o).heap[k]? = w.heap[k]? := fun k hk => Below.heap_alloc w _ _ hk
  refine ⟨?_, hm⟩
  refine { htm := fun i => RW.mono hm _ _ (h.htm i), hsz := h.hsz, hst := ?_, inj := ?_, fresh := ?_, un := fun b hb => h.un b hb.1, pin := fun b y e => hm b y (h.pin b y e), low := ?_, mlt := ?_, below := h.below.alloc h.hb _, hb := h.hb }
  · intro b y hy
    rw [look_cons] at hy
    split at hy
    · next e =>
      subst e; cases hy
      exact hbx _ hm (by simp) (by have := heap_alloc_new w o; exact this)
    · exact (h.hst b y hy).mono hm (fun g C hg ho => ⟨hold g (h.mlt _ _ _ hg), ho⟩)
  · intro b b' g c c' ha ha' hg hg'
    by_cases e : b = id
    · by_cases e' : b' = id
      · rw [e, e']
      · simp only [e, if_true, Option.some.injEq, Prod.mk.injEq] at hg
        simp only [e', if_false] at hg'
        exact absurd (h.mlt _ _ _ hg') (by omega)
    · by_cases e' : b' = id
      · simp only [e', if_true, Option.some.injEq, Prod.mk.injEq] at hg'
        simp only [e, if_false] at hg
        exact absurd (h.mlt _ _ _ hg) (by omega)
      · simp only [e, if_false] at hg
        simp only [e', if_false] at hg'
        have al : ∀ b, b ≠ id → alive ((id, x) :: st) b → alive st b := by
          rintro b hb ⟨y, hy, hy0⟩
          rw [look_cons, if_neg (fun e => hb e.symm)] at hy
          exact ⟨y, hy, hy0⟩
        exact h.inj b b' g c c' (al b e ha) (al b' e' ha') hg hg'
  · rintro b ⟨hb, hne⟩
    refine ⟨?_, by simp [hne, (h.fresh b hb).2]⟩
    rw [look_cons, if_neg (fun e => hne e.symm)]
    exact (h.fresh b hb).1
  · intro b g c hb
    by_cases e : b = id
    · simp only [e, if_true, Option.some.injEq, Prod.mk.injEq] at hb
      simp; omega
    · simp only [e, if_false] at hb
      have := h.mlt _ _ _ hb
      simp; omega
  · intro b g hb
    by_cases e : b = id
    · subst e; exact .inr (h.un _ hU)
    · simp only [e, if_false] at hb; exact h.low b g hb

/-- A block is written; what the box says of it, too. -/
theorem RelM.write (h : RelM O w0 M0 N0 U m sz tm st a w) {b g C : Nat} {x0 x1 : B} (hl : look st b = some x0) (h0 : x0 ≠ .dead) (hm : m b = some (g, C)) (hg : O g) {w' : World}
    (hos : w'.os = w.os) (htp : w'.tape = w.tape) (hout : w'.output = w.output) (hsize : w'.heap.size = w.heap.size) (hoth : ∀ k, k ≠ g → w'.heap[k]? = w.heap[k]?) (hx : RB O m w'.heap b x1) :
    RelM O w0 M0 N0 U m sz tm ((b, x1) :: st) a w' := by
  have hal : ∀ b', alive ((b, x1) :: st) b' → alive st b' := by
    rintro b' ⟨y, hy, hy0⟩
    rw [look_cons] at hy
    split at hy
    · next e => subst e; exact ⟨x0, hl, h0⟩
    · exact ⟨y, hy, hy0⟩
  refine { htm := h.htm, hsz := h.hsz, hst := ?_, inj := fun b1 b2 g' c c' a1 a2 => h.inj b1 b2 g' c c' (hal _ a1) (hal _ a2), fresh := ?_, un := h.un, pin := h.pin, low := h.low, mlt := ?_, below := ?_, hb := h.hb }
  · intro b' y hy
    rw [look_cons] at hy
    split at hy
    · next e => subst e; cases hy; exact hx
    · next hne =>
      by_cases hd : y = .dead
      · subst hd; trivial
      refine (h.hst b' y hy).mono (fun _ _ e => e) (fun g' c' hm' ho => ⟨hoth g' ?_, ho⟩)
      rintro rfl
      exact hne (h.inj b b' _ _ _ ⟨x0, hl, h0⟩ ⟨y, hy, hd⟩ hm hm')
  · intro b' hb'
    obtain ⟨e1, e2⟩ := h.fresh b' hb'
    refine ⟨?_, e2⟩
    rw [look_cons, if_neg (fun e => by subst e; rw [hl] at e1; cases e1)]
    exact e1
  · intro b g c hb; rw [hsize]; exact h.mlt b g c hb
  · exact h.below.trans ⟨hos, htp, hout, by omega, fun k hno => hoth k (fun e => hno (e ▸ hg))⟩

theorem RelM.setRow (h : RelM O w0 M0 N0 U m sz tm st a w) {b g C : Nat} {x0 x1 : B} (hl : look st b = some x0) (h0 : x0 ≠ .dead) (hm : m b = some (g, C)) (hg : O g)
    {arr arr' : Array Value} {ty : TypeId} (hh : w.heap[g]? = some (.cells arr ty (0, 0)))
    (hx : (w.setRow g arr').heap[g]? = some (.cells arr' ty (0, 0)) → RB O m (w.setRow g arr').heap b x1) :
    RelM O w0 M0 N0 U m sz tm ((b, x1) :: st) a (w.setRow g arr') :=
  h.write hl h0 hm hg rfl rfl rfl (by simp [World.setRow]) (fun k hk => setRow_other w g k arr' hk) (hx (setRow_heap w g arr arr' ty _ hh))

theorem RelM.putObj (h : RelM O w0 M0 N0 U m sz tm st a w) {b g C : Nat} {x0 x1 : B} (hl : look st b = some x0) (h0 : x0 ≠ .dead) (hm : m b = some (g, C)) (hg : O g) {o : Obj}
    (hx : (w.putObj g o).heap[g]? = some o → RB O m (w.putObj g o).heap b x1) : RelM O w0 M0 N0 U m sz tm ((b, x1) :: st) a (w.putObj g o) :=
  h.write hl h0 hm hg rfl rfl rfl (by simp) (fun k hk => World.putObj_heap_other hk) (hx (World.putObj_heap_same (h.mlt _ _ _ hm)))

/-- A box takes the place of another one, in the same block. -/
theorem RelM.rename (h : RelM O w0 M0 N0 U m sz tm st a w) {b id g C : Nat} (hU : U id) {x0 x1 : B} (hl : look st b = some x0) (h0 : x0 ≠ .dead) (hm : m b = some (g, C))
    (hx : ∀ m', (∀ b y, m b = some y → m' b = some y) → m' id = some (g, C) → RB O m' w.heap id x1) :
    RelM O w0 M0 N0 (fun b => U b ∧ b ≠ id) (fun k => if k = id then some (g, C) else m k) sz tm ((id, x1) :: (b, .dead) :: st) a w ∧ (∀ b y, m b = some y → (fun k => if k = id then some (g, C) else m k) b = some y) := by
  have hbi : b ≠ id := fun e => by subst e; rw [(h.fresh b hU).1] at hl; cases hl
  have hmm : ∀ b y, m b = some y → (fun k => if k = id then some (g, C) else m k) b = some y := by
    intro b y hb
    by_cases e : b = id
    · subst e; rw [(h.fresh b hU).2] at hb; cases hb
    · simp [e, hb]
  have hal : ∀ b', b' ≠ id → alive ((id, x1) :: (b, .dead) :: st) b' → alive st b' ∧ b' ≠ b := by
    rintro b' hne ⟨y, hy, hy0⟩
    rw [look_cons, if_neg (fun e => hne e.symm), look_cons] at hy
    split at hy
    · cases hy; exact absurd rfl hy0
    · next e => exact ⟨⟨y, hy, hy0⟩, fun e' => e e'.symm⟩
  refine ⟨?_, hmm⟩
  refine { htm := fun i => RW.mono hmm _ _ (h.htm i), hsz := h.hsz, hst := ?_, inj := ?_, fresh := ?_, un := fun b hb => h.un b hb.1, pin := fun b y e => hmm b y (h.pin b y e), low := ?_, mlt := ?_, below := h.below, hb := h.hb }
  · intro b' y hy
    rw [look_cons] at hy
    split at hy
    · next e => subst e; cases hy; exact hx _ hmm (by simp)
    · rw [look_cons] at hy
      split at hy
      · cases hy; trivial
      · exact (h.hst b' y hy).mono hmm (fun g' c' hg' ho => ⟨rfl, ho⟩)
  · intro b1 b2 g' c1 c2 a1 a2 h1 h2
    by_cases e1 : b1 = id
    · by_cases e2 : b2 = id
      · rw [e1, e2]
      · simp only [e1, if_true, Option.some.injEq, Prod.mk.injEq] at h1
        simp only [e2, if_false] at h2
        obtain ⟨al, hne⟩ := hal b2 e2 a2
        have := h.inj b2 b g' c2 C al ⟨x0, hl, h0⟩ h2 (by rw [hm, h1.1])
        exact absurd this hne
    · by_cases e2 : b2 = id
      · simp only [e2, if_true, Option.some.injEq, Prod.mk.injEq] at h2
        simp only [e1, if_false] at h1
        obtain ⟨al, hne⟩ := hal b1 e1 a1
        have := h.inj b1 b g' c1 C al ⟨x0, hl, h0⟩ h1 (by rw [hm, h2.1])
        exact absurd this hne
      · simp only [e1, if_false] at h1
        simp only [e2, if_false] at h2
        exact h.inj b1 b2 g' c1 c2 (hal b1 e1 a1).1 (hal b2 e2 a2).1 h1 h2
  · rintro b' ⟨hb', hne⟩
    refine ⟨?_, by simp [hne, (h.fresh b' hb').2]⟩
    have h3 := (h.fresh b' hb').1
    rw [look_cons, if_neg (fun e => hne e.symm), look_cons, if_neg (fun e => by subst e; rw [hl] at h3; cases h3)]
    exact h3
  · intro b' g' c' hb'
    by_cases e : b' = id
    · simp only [e, if_true, Option.some.injEq, Prod.mk.injEq] at hb'
      rw [← hb'.1]
      exact h.mlt b g C hm
    · simp only [e, if_false] at hb'
      exact h.mlt _ _ _ hb'
  · intro b' g' hb'
    by_cases e : b' = id
    · subst e; exact .inr (h.un _ hU)
    · simp only [e, if_false] at hb'; exact h.low _ _ hb'

/-- A box is given up. -/
theorem RelM.kill (h : RelM O w0 M0 N0 U m sz tm st a w) {b : Nat} {x0 : B} (hl : look st b = some x0) : RelM O w0 M0 N0 U m sz tm ((b, .dead) :: st) a w := by
  have hal : ∀ b', alive ((b, .dead) :: st) b' → alive st b' := by
    rintro b' ⟨y, hy, hy0⟩
    rw [look_cons] at hy
    split at hy
    · cases hy; exact absurd rfl hy0
    · exact ⟨y, hy, hy0⟩
  refine { h with hst := ?_, inj := fun b1 b2 g' c c' a1 a2 => h.inj b1 b2 g' c c' (hal _ a1) (hal _ a2), fresh := ?_ }
  · intro b' y hy
    rw [look_cons] at hy
    split at hy
    · cases hy; trivial
    · exact h.hst b' y hy
  · intro b' hb'
    obtain ⟨e1, e2⟩ := h.fresh b' hb'
    refine ⟨?_, e2⟩
    rw [look_cons, if_neg (fun e => by subst e; rw [hl] at e1; cases e1)]
    exact e1

/-- Seen from here on. -/
theorem RelM.base (h : RelM O w0 M0 N0 U m sz tm st a w) {n : Nat} (hn : ∀ b, U b → n ≤ b) : RelM O w m n U m sz tm st a w :=
  { htm := h.htm, hsz := h.hsz, hst := h.hst, inj := h.inj, fresh := h.fresh, un := hn, mlt := h.mlt, pin := fun _ _ e => e, low := fun _ _ e => .inl e, below := Own.refl _ _, hb := fun g hg => h.hb g (Nat.le_trans h.below.size hg) }

theorem RelM.comp (h : RelM O w0 M0 N0 U m sz tm st a w) {N1 : Nat} (hN : N0 ≤ N1) {U' : Nat → Prop} {m' : MM} {sz' : Nat} {tm' : TW} {st' : SB} {a' : Act} {w' : World} (k : RelM O w m N1 U' m' sz' tm' st' a' w') :
    RelM O w0 M0 N0 U' m' sz' tm' st' a' w' :=
  { htm := k.htm, hsz := k.hsz, hst := k.hst, inj := k.inj, fresh := k.fresh, un := fun b hb => Nat.le_trans hN (k.un b hb), mlt := k.mlt, pin := fun b y e => k.pin b y (h.pin b y e),
    low := fun b g e => (k.low b g e).elim (h.low b g) (fun h => .inr (Nat.le_trans hN h)), below := h.below.trans k.below, hb := h.hb }

/-- The memory alone. -/
abbrev RelH (O : Nat → Prop) (w0 : World) (M0 : MM) (N0 top : Nat) (m : MM) (st : SB) (w : World) : Prop := RelM O w0 M0 N0 (fun b => top ≤ b) m 0 [] st ⟨#[], []⟩ w

theorem RelM.heap {top : Nat} (h : RelM O w0 M0 N0 (fun b => top ≤ b) m sz tm st a w) : RelH O w0 M0 N0 top m st w := h.act (tm' := []) (a' := ⟨#[], []⟩) (fun i => trivial) rfl
end

/-- The value of a constant, of a result: cells apart. -/
def toW0 (x : Value) : W := match x with
  | .agg arr => if arr.toList.all (·.oneCell') then .agg (arr.toList.map W.v) else .v x
  | x => .v x
def toW (x : Value) : W := match x with
  | .tuple arr => .tup (arr.toList.map toW0)
  | x => toW0 x
theorem RW_toW0 {m : MM} (x : Value) : RW m (toW0 x) x := by
  cases x with
  | agg arr =>
    simp only [toW0]
    split
    · next h => exact ⟨arr, rfl, RWs_vals fun x hx => List.all_eq_true.1 h x hx⟩
    · rfl
  | _ => exact rfl
theorem RW_toW {m : MM} (x : Value) : RW m (toW x) x := by
  unfold toW
  split
  · next arr =>
    refine ⟨arr, rfl, ?_⟩
    rw [RWs_iff]
    refine ⟨by simp, fun i c x hc hx => ?_⟩
    rw [List.getElem?_map, hx] at hc
    cases hc
    exact ⟨RW_toW0 _, fun e => by cases e⟩
  · exact RW_toW0 _

noncomputable def evW (tm : TW) : Operand → W
  | .tmp t => (look tm t).getD .top
  | .const x => toW x
  | .func f => .fn f []
  | .global _ => .top

theorem RelM.ev {O : Nat → Prop} {w0 : World} {M0 : MM} {N0 : Nat} {U : Nat → Prop} {m : MM} {sz : Nat} {tm : TW} {st : SB} {a : Act} {w : World} (h : RelM O w0 M0 N0 U m sz tm st a w) (x : Operand) : RW m (evW tm x) (a.eval x) := by
  cases x with
  | tmp t => exact h.htm t
  | const v => exact RW_toW v
  | func f => exact ⟨#[], rfl, by simp [RWs]⟩
  | global g => exact trivial

/-! A value without memory, as the model has it. -/
mutual
def pl : W → Option Value
  | .v x => some x
  | .agg cs => match pls cs with
    | some xs => some (.agg xs.toArray)
    | none => none
  | .tup cs => match pls cs with
    | some xs => some (.tuple xs.toArray)
    | none => none
  | .fn g caps => match caps with
    | [] => some (.func (.func g) #[] #[])
    | _ :: _ => none
  | .ifc t c => match pl c with
    | some x => some (.iface t x)
    | none => none
  | .top => none
  | .ptr _ _ => none
  | .sl _ _ _ _ => none
  | .mp _ => none
  | .yld _ => none
def pls : List W → Option (List Value)
  | [] => some []
  | c :: cs => match pl c, pls cs with
    | some x, some xs => some (x :: xs)
    | _, _ => none
end
mutual
theorem pl_RW {m : MM} : ∀ (c : W) (x y : Value), pl c = some x → RW m c y → y = x
  | .v z, x, y, h, hr => by simp only [pl, Option.some.injEq] at h; subst h; exact hr
  | .agg cs, x, y, h, hr => by
    simp only [pl] at h
    obtain ⟨arr, rfl, hr⟩ := hr
    cases hp : pls cs with
    | none => simp [hp] at h
    | some xs => simp only [hp, Option.some.injEq] at h; subst h; rw [← pls_RW cs xs _ hp hr]
  | .tup cs, x, y, h, hr => by
    simp only [pl] at h
    obtain ⟨arr, rfl, hr⟩ := hr
    cases hp : pls cs with
    | none => simp [hp] at h
    | some xs => simp only [hp, Option.some.injEq] at h; subst h; rw [← pls_RW cs xs _ hp hr]
  | .fn g [], x, y, h, hr => by
    simp only [pl, Option.some.injEq] at h
    obtain ⟨arr, rfl, hr⟩ := hr
    have := RWs_length hr
    subst h
    have e : arr = #[] := by apply Array.ext'; simpa using (List.eq_nil_of_length_eq_zero this.symm)
    rw [e]
  | .fn g (_ :: _), x, y, h, hr => by simp [pl] at h
  | .ifc t c, x, y, h, hr => by
    simp only [pl] at h
    obtain ⟨z, rfl, hr⟩ := hr
    cases hp : pl c with
    | none => simp [hp] at h
    | some u => simp only [hp, Option.some.injEq] at h; subst h; rw [pl_RW c u z hp hr]
  | .top, _, _, h, _ => by simp [pl] at h
  | .ptr _ _, _, _, h, _ => by simp [pl] at h
  | .sl _ _ _ _, _, _, h, _ => by simp [pl] at h
  | .mp _, _, _, h, _ => by simp [pl] at h
  | .yld _, _, _, h, _ => by simp [pl] at h
theorem pls_RW {m : MM} {one : Bool} : ∀ (cs : List W) (xs ys : List Value), pls cs = some xs → RWs m one cs ys → ys = xs
  | [], xs, ys, h, hr => by
    simp only [pls, Option.some.injEq] at h
    subst h
    cases ys with
    | nil => rfl
    | cons y ys => simp [RWs] at hr
  | c :: cs, xs, ys, h, hr => by
    cases ys with
    | nil => simp [RWs] at hr
    | cons y ys =>
      simp only [RWs] at hr
      simp only [pls] at h
      cases h1 : pl c with
      | none => simp [h1] at h
      | some x =>
        cases h2 : pls cs with
        | none => simp [h1, h2] at h
        | some xs' =>
          simp only [h1, h2, Option.some.injEq] at h
          subst h
          rw [pl_RW c x y h1 hr.1.1, pls_RW cs xs' ys h2 hr.2]
end
end Go.Ev.Mi
/- The mirror machine: what the operations do. -/
set_option linter.unusedVariables false
set_option linter.unusedSimpArgs false
namespace Go.Ev.Mi
open Go.RowKit
noncomputable section

/-- A computation that touches no memory and asks nothing. -/
def prS {α : Type} (P : Program) (s : Sem α) : Option α :=
  Sem.rec (motive := fun _ => Option α) (fun a => some a) (fun _ _ _ _ => none) (fun _ _ _ _ _ => none) (fun _ _ _ => none) (fun _ _ _ => none) (fun _ _ _ _ => none) (fun _ _ _ => none)
    (fun _ _ _ => none) (fun _ _ _ _ => none) (fun q _ ih => match q.forced with | true => ih 0 | false => none) (fun _ _ _ => none) (fun _ ih => ih P) (fun _ _ ih => ih) (fun _ => none) s

theorem prS_run {α : Type} {P : Program} : ∀ (s : Sem α) (a : α) (w : World), prS P s = some a → s.run P w = .ok a w
  | .pure b, a, w, h => by cases h; rfl
  | .program k, a, w, h => by
    show (k P).run P w = _
    exact prS_run (k P) a w h
  | .mark _ k, a, w, h => prS_run k a w h
  | .choose q k, a, w, h => by
    have h : (match q.forced with | true => prS P (k 0) | false => none) = some a := h
    cases hq : q.forced with
    | true =>
      rw [hq] at h
      simp only [Sem.run, hq, if_true]
      exact prS_run (k 0) a w h
    | false => rw [hq] at h; cases h
  | .load .., _, _, h => by cases h
  | .store .., _, _, h => by cases h
  | .new .., _, _, h => by cases h
  | .shape .., _, _, h => by cases h
  | .freeze .., _, _, h => by cases h
  | .frozen .., _, _, h => by cases h
  | .getObj .., _, _, h => by cases h
  | .setObj .., _, _, h => by cases h
  | .sys .., _, _, h => by cases h
  | .halt _, _, _, h => by cases h

inductive T where
  | fail
  | ret (v : W)
  | dec (p : Prop) (k : T) [d : Decidable p]
  | get (b : Nat) (k : B → T)
  | put (b : Nat) (x : B) (k : T)

def T.x : T → SB → List Nat → SB → Option (W × SB × List Nat × SB)
  | .fail, _, _, _ => none
  | .ret v, st, rs, us => some (v, st, rs, us)
  | @T.dec _ k d, st, rs, us => match d with
    | .isTrue _ => k.x st rs us
    | .isFalse _ => none
  | .get b k, st, rs, us => match look st b with
    | some y => (k y).x st (b :: rs) us
    | none => none
  | .put b y k, st, rs, us => k.x ((b, y) :: st) rs ((b, y) :: us)

def T.go : T → SB → (W → SB → Prop) → Prop
  | .fail, _, _ => False
  | .ret v, st, K => K v st
  | @T.dec p k _, st, K => p ∧ k.go st K
  | .get b k, st, K => match look st b with
    | some x => (k x).go st K
    | none => False
  | .put b x k, st, K => k.go ((b, x) :: st) K

theorem T.x_dec {p : Prop} [d : Decidable p] {k : T} {st : SB} {rs : List Nat} {us : SB} {z : W × SB × List Nat × SB} (h : (T.dec p k).x st rs us = some z) : p ∧ k.x st rs us = some z := by
  cases d with
  | isTrue hp => exact ⟨hp, h⟩
  | isFalse _ => cases h

theorem T.x_go {K : W → SB → Prop} : ∀ (t : T) (st : SB) (rs : List Nat) (us : SB) (v : W) (st' : SB) (rs' : List Nat) (us' : SB), t.x st rs us = some (v, st', rs', us') → K v st' → t.go st K
  | .fail, _, _, _, _, _, _, _, h, _ => by cases h
  | .ret _, _, _, _, _, _, _, _, h, hk => by cases h; exact hk
  | @T.dec p k d, st, rs, us, v, st', rs', us', h, hk => by
    obtain ⟨hp, h⟩ := T.x_dec h
    exact ⟨hp, x_go k st rs us v st' rs' us' h hk⟩
  | .get b k, st, rs, us, v, st', rs', us', h, hk => by
    unfold T.x at h
    unfold T.go
    cases hy : look st b with
    | some y => rw [hy] at h; exact x_go (k y) st _ us v st' rs' us' h hk
    | none => rw [hy] at h; cases h
  | .put b y k, st, rs, us, v, st', rs', us', h, hk => x_go k _ rs _ v st' rs' us' h hk

/-- What a run adds; and it is the same where what it reads is the same. -/
theorem T.x_us : ∀ (t : T) (st : SB) (rs : List Nat) (us : SB) (v : W) (st' : SB) (rs' : List Nat) (us' : SB), t.x st rs us = some (v, st', rs', us') →
    ∃ vs, us' = vs ++ us ∧ st' = vs ++ st ∧ (∀ b ∈ rs, b ∈ rs') ∧ ∀ (st2 : SB), (∀ b ∈ rs', look st2 b = look st b) → t.x st2 rs us = some (v, vs ++ st2, rs', us')
  | .fail, _, _, _, _, _, _, _, h => by cases h
  | .ret _, _, _, _, _, _, _, _, h => by cases h; exact ⟨[], rfl, rfl, fun _ e => e, fun _ _ => rfl⟩
  | @T.dec p k d, st, rs, us, v, st', rs', us', h => by
    obtain ⟨hp, h⟩ := T.x_dec h
    obtain ⟨vs, h1, h2, h3, h4⟩ := x_us k st rs us v st' rs' us' h
    refine ⟨vs, h1, h2, h3, fun st2 h5 => ?_⟩
    cases d with
    | isTrue _ => exact h4 st2 h5
    | isFalse e => exact absurd hp e
  | .get b k, st, rs, us, v, st', rs', us', h => by
    simp only [T.x] at h
    split at h
    · next y hy =>
      obtain ⟨vs, h1, h2, h3, h4⟩ := x_us (k y) st _ us v st' rs' us' h
      refine ⟨vs, h1, h2, fun c hc => h3 c (List.mem_cons_of_mem _ hc), fun st2 h5 => ?_⟩
      simp only [T.x]
      rw [h5 b (h3 b List.mem_cons_self), hy]
      exact h4 st2 h5
    · cases h
  | .put b y k, st, rs, us, v, st', rs', us', h => by
    obtain ⟨vs, h1, h2, h3, h4⟩ := x_us k _ rs _ v st' rs' us' h
    refine ⟨vs ++ [(b, y)], by simp [h1], by simp [h2], h3, fun st2 h5 => ?_⟩
    show k.x ((b, y) :: st2) rs ((b, y) :: us) = _
    rw [h4 ((b, y) :: st2) (fun c hc => by rw [look_cons, look_cons, h5 c hc])]
    simp

section
variable (P : Program)

def zeroW (t : TypeId) : Option (List W) := match P.info? t with
  | some i => match i.zero with
    | some z => match z.cells.toList.all (·.oneCell') && z.cells.size == i.size with
      | true => some (z.cells.toList.map W.v)
      | false => none
    | none => none
  | none => none

/-- The cells of a value that is stored. -/
def cellsW : W → Option (List W)
  | .agg cs => some cs
  | .v x => match x.oneCell' with
    | true => some [.v x]
    | false => none
  | .fn g caps => some [.fn g caps]
  | .ptr b off => some [.ptr b off]
  | .sl b off n c => some [.sl b off n c]
  | .mp b => some [.mp b]
  | .ifc t x => some [.ifc t x]
  | .yld _ => none
  | .top => none
  | .tup _ => none

/-- Read a variable of type t out of cells. -/
def takeW (t : TypeId) (cs : List W) (off : Nat) : T :=
  match aggOf P t, szOf P t with
  | some true, some n => .dec (off + n ≤ cs.length) (.ret (.agg ((cs.drop off).take n)))
  | some false, some _ => match cs[off]? with
    | some c => .ret c
    | none => .fail
  | _, _ => .fail

def fillW (place : Nat → Option (Nat × Nat)) (cells : List W) : List (Nat × W) → (List W → T) → T
  | [], k => k cells
  | (i, x) :: rest, k => match place i, cellsW x with
    | some (off, size), some cs => .dec (cs.length = size ∧ off + size ≤ cells.length) (fillW place (cells.take off ++ cs ++ cells.drop (off + size)) rest k)
    | _, _ => .fail

def retP : Option Value → T
  | some x => .ret (toW x)
  | none => .fail

/-- No operand leads to memory: the operation as the model does it. -/
def pureW (ρ : Operand → W) (o : Oper) : T := match o.op.operands.toList.all fun x => (pl (ρ x)).isSome with
  | true => match prS P (execOp (fun x => (pl (ρ x)).getD undef) o) with
    | some (.value x) => .ret (toW x)
    | some .skip => .ret .top
    | _ => .fail
  | false => .fail

def intW : W → Option (IntKind × Int)
  | .v (.int k n) => some (k, n)
  | _ => none
def natW : W → Option Nat
  | .v (.int _ (.ofNat n)) => some n
  | _ => none
def isNilW : W → Bool
  | .v (.slice none _ _) => true
  | .v (.pointer none) => true
  | .v (.map none) => true
  | .v .nilFunc => true
  | _ => false

/-- The cells of what is appended, copied. -/
def srcW (size : Nat) : W → (List W → Nat → T) → T
  | .sl b off n _, k => .get b fun
    | .cells cs _ _ => .dec (off + n * size ≤ cs.length) (k ((cs.drop off).take (n * size)) n)
    | _ => .fail
  | .v (.slice none 0 _), k => k [] 0
  | _, _ => .fail

def appendW (id : Nat) (t u : TypeId) (s x : W) : T :=
  .dec (t = u) (match elemOf? P t with
  | none => .fail
  | some e => match szOf P e, bytesOf P e, zeroW P e with
    | some size, some bytes, some _ => srcW size x fun new k => .dec (new.length = k * size ∧ 0 < size) (match k with
      | 0 => match s with
        | .sl b off n c => .ret (.sl b off n c)
        | .v (.slice none 0 0) => .ret (.v (.slice none 0 0))
        | _ => .fail
      | _ + 1 => match s with
        | .v (.slice none 0 0) => .dec (k ≤ maxLen ∧ k * bytes ≤ 140737488355328) (.put id (.cells new e size) (.ret (.sl id 0 k none)))
        | .sl b off n (some c) => .get b fun
          | .cells cs e' size' => match Nat.ble (n + k) c with
            | true => .dec (e' = e ∧ off + (n + k) * size ≤ cs.length) (.put b (.cells (cs.take (off + n * size) ++ new ++ cs.drop (off + n * size + k * size)) e' size') (.ret (.sl b off (n + k) (some c))))
            | false => .dec (off + n * size ≤ cs.length ∧ n + k ≤ maxLen ∧ (n + k) * bytes ≤ 140737488355328) (.put id (.cells ((cs.drop off).take (n * size) ++ new) e size) (.ret (.sl id 0 (n + k) none)))
          | _ => .fail
        | .sl b 0 n none => .get b fun
          | .cells cs e' size' => match Nat.ble ((n + k) * size) cs.length with
            | true => .dec (e' = e ∧ size' = size) (.put b (.cells (cs.take (0 + n * size) ++ new ++ cs.drop (0 + n * size + k * size)) e' size') (.ret (.sl b 0 (n + k) none)))
            | false => .dec (e' = e ∧ size' = size ∧ n * size = cs.length ∧ n + k ≤ maxLen ∧ (n + k) * bytes ≤ 140737488355328) (.put b .dead (.put id (.cells (cs ++ new) e size) (.ret (.sl id 0 (n + k) none))))
          | _ => .fail
        | _ => .fail)
    | _, _, _ => .fail)

def copyW (t : TypeId) (s x : W) : T := match elemOf? P t with
  | none => .fail
  | some e => match szOf P e, s with
    | some 1, .sl b off n _ => srcW 1 x fun new k => match Nat.min k n with
      | 0 => .ret (.v (.int .i64 0))
      | j + 1 => .get b fun
        | .cells cs e' size' => .dec (off + (j + 1) ≤ cs.length ∧ new.length = k) (.put b (.cells (cs.take off ++ new.take (j + 1) ++ cs.drop (off + (j + 1))) e' size') (.ret (.v (.int .i64 ((j + 1 : Nat) : Int)))))
        | _ => .fail
    | _, _ => .fail

def boundW (ρ : Operand → W) (o : Option Operand) (d : Nat) : Option Nat := match o with
  | none => some d
  | some o => natW (ρ o)

def sliceW (ρ : Operand → W) (t : TypeId) (x : Operand) (lo hi mx : Option Operand) : T := match ρ x with
  | .sl b off n cap => match elemOf? P t with
    | some e => match szOf P e, boundW ρ lo 0, boundW ρ hi n with
      | some size, some i, some j => match mx, cap with
        | none, none => .dec (0 < size ∧ i ≤ j ∧ j ≤ n) (.ret (.sl b (off + i * size) (j - i) none))
        | none, some c => .dec (i ≤ j ∧ j ≤ c) (.ret (.sl b (off + i * size) (j - i) (some (c - i))))
        | some k, none => match hi, natW (ρ k) with
          | some _, some k => .dec (i ≤ j ∧ j ≤ k ∧ k ≤ n) (.ret (.sl b (off + i * size) (j - i) (some (k - i))))
          | _, _ => .fail
        | some k, some c => match hi, natW (ρ k) with
          | some _, some k => .dec (i ≤ j ∧ j ≤ k ∧ k ≤ c) (.ret (.sl b (off + i * size) (j - i) (some (k - i))))
          | _, _ => .fail
      | _, _, _ => .fail
    | none => .fail
  | _ => .fail

/-- Where a key stands among keys. -/
def findNowK (kind : TypeDesc) (k : Value) : List Value → Nat → Option (Option Nat)
  | [], _ => some none
  | e :: es, i => match Instr.sameNow kind k e with
    | some true => some (some i)
    | some false => findNowK kind k es (i + 1)
    | none => none
def findAskK (kt : TypeId) (k : Value) : List Value → Nat → Option (Option Nat)
  | [], _ => some none
  | e :: es, i => match prS P (Op.equal kt k e) with
    | some true => some (some i)
    | some false => findAskK kt k es (i + 1)
    | none => none
def findK (kt : TypeId) (k : Value) (es : List Value) : Option (Option Nat) := match P.underlying kt with
  | none => none
  | some d => match findNowK d k es 0 with
    | some r => some r
    | none => findAskK P kt k es 0

def mapOf? (t : TypeId) : Option (TypeId × TypeId) := match P.underlying t with
  | some (.map k e) => some (k, e)
  | _ => none

def zeroV (t : TypeId) : Option Value := match P.info? t with
  | some i => i.zero
  | none => none

def okKey (emp : Bool) (kt : TypeId) (k : Value) : Bool := (prS P (Instr.checkKey emp 10000 kt k)).isSome

def lookupW (ρ : Operand → W) (t : TypeId) (x i : Operand) (ok : Bool) : T := match mapOf? P t, pl (ρ i) with
  | some (kt, et), some k => match ρ x with
    | .mp b => .get b fun
      | .map es _ => match okKey P es.isEmpty kt k with
        | true => match findK P kt k (es.map (·.1)), zeroV P et with
          | some (some j), _ => match es[j]? with
            | some e => .ret (match ok with | true => .tup [e.2.1, .v (.bool true)] | false => e.2.1)
            | none => .fail
          | some none, some z => .ret (match ok with | true => .tup [toW0 z, .v (.bool false)] | false => toW0 z)
          | _, _ => .fail
        | false => .fail
      | _ => .fail
    | .v (.map none) => match okKey P true kt k, findK P kt k [], zeroV P et with
      | true, some none, some z => .ret (match ok with | true => .tup [toW0 z, .v (.bool false)] | false => toW0 z)
      | _, _, _ => .fail
    | _ => .fail
  | _, _ => .fail

def updateW (ρ : Operand → W) (t : TypeId) (x i v : Operand) : T := match mapOf? P t, pl (ρ i), ρ x with
  | some (kt, et), some k, .mp b => .get b fun
    | .map es clock => match okKey P false kt k with
      | true => match findK P kt k (es.map (·.1)) with
        | some (some j) => match es[j]? with
          | some e => match Instr.sameBits 10000 e.1 k with
            | true => .put b (.map (es.set j (k, ρ v, e.2.2)) clock) (.ret .top)
            | false => .fail
          | none => .fail
        | some none => .put b (.map (es ++ [(k, ρ v, clock)]) (clock + 1)) (.ret .top)
        | none => .fail
      | false => .fail
    | _ => .fail
  | _, _, _ => .fail

def intBinW (op : BinOp) (k : IntKind) (a b : Int) : T :=
  match op with
  | .add => .ret (.v (.int k (k.wrap (a + b))))
  | .sub => .ret (.v (.int k (k.wrap (a - b))))
  | .mul => .ret (.v (.int k (k.wrap (a * b))))
  | .quo => .dec (b ≠ 0) (.ret (.v (.int k (k.wrap (a.tdiv b)))))
  | .rem => .dec (b ≠ 0) (.ret (.v (.int k (a.tmod b))))
  | .eql => .ret (.v (.bool (a == b)))
  | .neq => .ret (.v (.bool (a != b)))
  | .lss => .ret (.v (.bool (decide (a < b))))
  | .leq => .ret (.v (.bool (decide (a ≤ b))))
  | .gtr => .ret (.v (.bool (decide (a > b))))
  | .geq => .ret (.v (.bool (decide (a ≥ b))))
  | _ => .fail
def intOp : BinOp → Bool
  | .add | .sub | .mul | .quo | .rem | .eql | .neq | .lss | .leq | .gtr | .geq => true
  | _ => false

/-- Is a value that leads to memory nil? -/
def nilCmp (op : BinOp) : T := match op with
  | .eql => .ret (.v (.bool false))
  | .neq => .ret (.v (.bool true))
  | _ => .fail

def binW (ρ : Operand → W) (o : Oper) (op : BinOp) (t : TypeId) (x y : Operand) : T := match ρ x, ρ y with
  | .v (.int k a), .v (.int j b) => match intOp op with
    | true => .dec (k = j) (intBinW op k a b)
    | false => pureW P ρ o
  | .sl _ _ _ _, .v (.slice none 0 0) => match P.underlying t with
    | some (.slice _) => nilCmp op
    | _ => .fail
  | .ptr _ _, .v (.pointer none) => match P.underlying t with
    | some (.pointer _) => nilCmp op
    | _ => .fail
  | _, _ => pureW P ρ o

def opM (id : Nat) (ρ : Operand → W) (o : Oper) : T := match o.op with
  | .move x => .ret (ρ x)
  | .assign x => .ret (ρ x)
  | .pick c a b => match ρ c with
    | .v (.bool true) => .ret (ρ a)
    | .v (.bool false) => .ret (ρ b)
    | _ => .fail
  | .alloc t => match zeroW P t with
    | some z => .put id (.cells z t 0) (.ret (.ptr id 0))
    | none => .fail
  | .box t x => match cellsW (ρ x) with
    | some cs => .put id (.cells cs t 0) (.ret (.ptr id 0))
    | none => .fail
  | .build t parts => match zeroW P t, placesOf P t with
    | some z, some pl => fillW pl z (parts.toList.map fun (i, x) => (i, ρ x)) fun cs => .ret (.agg cs)
    | _, _ => .fail
  | .buildSlice t n parts => match elemOf? P t with
    | some e => match szOf P e, zeroW P e with
      | some size, some z => .dec (0 < size ∧ n * size ≤ 2 ^ 24)
          (fillW (fun i => some (i * size, size)) (List.replicate n z).flatten (parts.toList.map fun (i, x) => (i, ρ x)) fun cs =>
            .put id (.cells cs e size) (.ret (.sl id 0 n (some n))))
      | _, _ => .fail
    | none => .fail
  | .load t a => match ρ a with
    | .ptr b off => .get b fun
      | .cells cs _ _ => takeW P t cs off
      | _ => .fail
    | _ => .fail
  | .store t a x => match ρ a, cellsW (ρ x), szOf P t with
    | .ptr b off, some new, some n => .get b fun
      | .cells cs e size => .dec (new.length = n ∧ off + n ≤ cs.length) (.put b (.cells (cs.take off ++ new ++ cs.drop (off + n)) e size) (.ret .top))
      | _ => .fail
    | _, _, _ => .fail
  | .nilCheck x => match ρ x with
    | .ptr b off => .ret (.ptr b off)
    | .fn g caps => .ret (.fn g caps)
    | .ifc t x => .ret (.ifc t x)
    | _ => .fail
  | .binOp op t x y _ => binW P ρ o op t x y
  | .makeFunc fn first caps => match fn, first.toList with
    | .func g, [] => .ret (.fn g (caps.toList.map ρ))
    | _, _ => .fail
  | .makeInterface t x => match P.underlying t with
    | some (.interface _) => .fail
    | none => .fail
    | some _ => .ret (.ifc t (ρ x))
  | .typeAssert x xt asserted ok => match ρ x with
    | .ifc t y => match P.underlying asserted with
      | some (.interface _) => .fail
      | none => .fail
      | some _ => match Nat.beq t asserted with
        | true => .ret (match ok with | true => .tup [y, .v (.bool true)] | false => y)
        | false => match ok, zeroV P asserted with
          | true, some z => .ret (.tup [toW0 z, .v (.bool false)])
          | _, _ => .fail
    | _ => pureW P ρ o
  | .makeMap t r => match r with
    | none => .put id (.map [] 0) (.ret (.mp id))
    | some r => match intW (ρ r), mapOf? P t with
      | some _, some _ => .put id (.map [] 0) (.ret (.mp id))
      | _, _ => .fail
  | .lookup t x i ok => lookupW P ρ t x i ok
  | .mapUpdate t x i v => updateW P ρ t x i v
  | .insert t x i v => updateW P ρ t x i v
  | .slice t x lo hi mx => match ρ x with
    | .v _ => pureW P ρ o
    | _ => sliceW P ρ t x lo hi mx
  | .fieldAddr s x f => match ρ x, fieldAt? P s f with
    | .ptr b off, some (i, t) => match szOf P t with
      | some (_ + 1) => .ret (.ptr b (off + i))
      | _ => .fail
    | _, _ => .fail
  | .field s x f => match ρ x, fieldAt? P s f with
    | .agg cs, some (i, t) => takeW P t cs i
    | _, _ => .fail
  | .indexAddr t x i => match ρ x, natW (ρ i) with
    | .sl b off n _, some j => match elemOf? P t with
      | some e => match szOf P e with
        | some size => .dec (j < n) (.ret (.ptr b (off + j * size)))
        | none => .fail
      | none => .fail
    | .ptr b off, some j => match arrOf? P t with
      | some (n, e) => match szOf P e with
        | some size => .dec (j < n) (.ret (.ptr b (off + j * size)))
        | none => .fail
      | none => .fail
    | _, _ => .fail
  | .index t x i => match ρ x with
    | .agg cs => match natW (ρ i), arrOf? P t with
      | some j, some (n, e) => match szOf P e with
        | some size => .dec (j < n) (takeW P e cs (j * size))
        | none => .fail
      | _, _ => .fail
    | _ => pureW P ρ o
  | .extract x i => match ρ x with
    | .tup vs => match vs[i]? with
      | some c => .ret c
      | none => .fail
    | _ => .fail
  | .makeSlice t n c => match ρ n, ρ c, elemOf? P t with
    | .v (.int .i64 (.ofNat i)), .v (.int .i64 (.ofNat j)), some e => match szOf P e, bytesOf P e, zeroW P e with
      | some size, some bytes, some z => .dec (i ≤ j ∧ j * bytes ≤ 281474976710656 ∧ 0 < size ∧ j ≤ maxLen)
          (.put id (.cells (List.replicate j z).flatten e size) (.ret (.sl id 0 i (some j))))
      | _, _, _ => .fail
    | _, _, _ => .fail
  | .call { callee := .builtin b, args, argTypes } => match b, args.toList, argTypes.toList with
    | .append, [s, x], [t, u] => appendW P id t u (ρ s) (ρ x)
    | .copy, [s, x], [t, _] => copyW P t (ρ s) (ρ x)
    | .len, [x], [t] => match ρ x with
      | .sl _ _ n _ => match elemOf? P t with
        | some _ => .ret (.v (.int .i64 (n : Int)))
        | none => .fail
      | .mp b => match mapOf? P t with
        | some _ => .get b fun
          | .map es _ => .ret (.v (.int .i64 (es.length : Int)))
          | _ => .fail
        | none => .fail
      | _ => pureW P ρ o
    | .cap, [x], [t] => match ρ x with
      | .sl _ _ _ (some c) => match elemOf? P t with
        | some _ => .ret (.v (.int .i64 (c : Int)))
        | none => .fail
      | _ => pureW P ρ o
    | _, _, _ => pureW P ρ o
  | .call _ => .fail
  | .go _ => .fail
  | .defer _ => .fail
  | .select _ _ => .fail
  | _ => pureW P ρ o
end
end
end Go.Ev.Mi
/- The mirror machine: the operations are done as the model does them. -/
set_option linter.unusedVariables false
set_option linter.unusedSimpArgs false
namespace Go.Ev.Mi
open Go.RowKit

section
variable {P : Program}

/-- An operation is done. -/
def Did (P : Program) (o : Oper) (a : Act) (w : World) (O : Nat → Prop) (w0 : World) (M0 : MM) (N0 : Nat) (U : Nat → Prop) (m : MM) (sz : Nat) (tm : TW) (id : Nat) (K : W → SB → Prop) : Prop :=
  ∃ n x w' m' v st', (execOp a.eval o).run P w = .ok n w' ∧ (n = .value x ∨ (n = .skip ∧ x = undef)) ∧ RelM O w0 M0 N0 (fun b => U b ∧ b ≠ id) m' sz tm st' a w' ∧ (∀ b y, m b = some y → m' b = some y) ∧ RW m' v x ∧ K v st'

section
variable {O : Nat → Prop} {w0 : World} {M0 : MM} {N0 : Nat} {U : Nat → Prop} {m : MM} {sz : Nat} {tm : TW} {st : SB} {a : Act} {w : World} {id : Nat} {K : W → SB → Prop} {o : Oper} {ρ : Operand → W}

theorem did_val (h : RelM O w0 M0 N0 U m sz tm st a w) {c : W} {x : Value} (hr : (execOp a.eval o).run P w = .ok (.value x) w) (hx : RW m c x) (hk : K c st) : Did P o a w O w0 M0 N0 U m sz tm id K :=
  ⟨_, x, w, m, c, st, hr, .inl rfl, h.weakU fun _ e => e.1, fun _ _ e => e, hx, hk⟩

theorem pure_d (h : RelM O w0 M0 N0 U m sz tm st a w) (hs : ∀ cs b, o.op ≠ .select cs b) (hρ : ∀ x ∈ o.op.operands, RW m (ρ x) (a.eval x)) (hg : (pureW P ρ o).go st K) : Did P o a w O w0 M0 N0 U m sz tm id K := by
  unfold pureW at hg
  split at hg
  · next hall =>
    have hc : execOp a.eval o = execOp (fun x => (pl (ρ x)).getD undef) o := by
      refine execOp_congr o hs fun x hx => ?_
      have := List.all_eq_true.1 hall x (Array.mem_toList_iff.2 hx)
      obtain ⟨v, hv⟩ := Option.isSome_iff_exists.1 this
      simp only [hv, Option.getD_some]
      exact pl_RW _ _ _ hv (hρ x hx)
    split at hg
    · next x hp =>
      refine did_val h (c := toW x) (x := x) ?_ (RW_toW x) hg
      rw [hc]; exact prS_run _ _ _ hp
    · next hp =>
      refine ⟨_, undef, w, m, .top, st, ?_, .inr ⟨rfl, rfl⟩, h.weakU fun _ e => e.1, fun _ _ e => e, trivial, hg⟩
      rw [hc]; exact prS_run _ _ _ hp
    · cases hg
  · cases hg

theorem zeroW_run {t : TypeId} {z : List W} (w : World) (h : zeroW P t = some z) : ∃ v, (zeroValue t).run P w = .ok v w ∧ z = v.cells.toList.map W.v ∧ (∀ x ∈ v.cells.toList, x.oneCell' = true) ∧
    ∃ i, P.info? t = some i ∧ i.zero = some v ∧ v.cells.size = i.size := by
  simp only [zeroW] at h
  cases hi : P.info? t with
  | none => simp [hi] at h
  | some i =>
    rw [hi] at h
    cases hz : i.zero with
    | none => simp [hz] at h
    | some v =>
      simp only [hz] at h
      split at h
      · next hc =>
        simp only [Bool.and_eq_true, List.all_eq_true, beq_iff_eq] at hc
        cases h
        exact ⟨v, by simp [zeroValue, typeInfo, hi, hz], rfl, hc.1, i, rfl, hz, hc.2⟩
      · cases h

theorem zeroV_run {t : TypeId} {z : Value} (w : World) (h : zeroV P t = some z) : (zeroValue t).run P w = .ok z w := by
  simp only [zeroV] at h
  cases hi : P.info? t with
  | none => simp [hi] at h
  | some i => simp [hi] at h; simp [zeroValue, typeInfo, hi, h]

theorem elem_u {t e : TypeId} (he : elemOf? P t = some e) : P.underlying t = some (.slice e) := by simp only [elemOf?] at he; split at he <;> simp_all
theorem arr_u {t e : TypeId} {n : Nat} (he : arrOf? P t = some (n, e)) : P.underlying t = some (.array n e) := by simp only [arrOf?] at he; split at he <;> simp_all
theorem map_u {t k e : TypeId} (he : mapOf? P t = some (k, e)) : P.underlying t = some (.map k e) := by simp only [mapOf?] at he; split at he <;> simp_all
theorem field_u {s t : TypeId} {f i : Nat} (hf : fieldAt? P s f = some (i, t)) : ∃ fs x0, P.underlying s = some (.struct fs) ∧ fs[f]? = some x0 ∧ x0.offset = i ∧ x0.type = t := by
  simp only [fieldAt?] at hf
  split at hf
  · next fs hu =>
    cases h0 : fs[f]? with
    | none => simp [h0] at hf
    | some x0 => simp [h0] at hf; exact ⟨fs, x0, hu, h0, hf.1, hf.2⟩
  · cases hf

theorem natW_val {c : W} {n : Nat} {x : Value} (h : natW c = some n) (hx : RW m c x) : ∃ k, x = .int k (n : Int) := by
  unfold natW at h
  split at h
  · next k n' => cases h; exact ⟨k, hx⟩
  · cases h

/-- What a box of cells says of its cells. -/
theorem cells_len {cs : List W} {l : List Value} (h : RWs m true cs (l.take cs.length)) : cs.length ≤ l.length := by
  have := RWs_length h
  rw [List.length_take] at this
  omega
theorem cells_get {cs : List W} {l : List Value} (h : RWs m true cs (l.take cs.length)) {i : Nat} {c : W} (hc : cs[i]? = some c) : ∃ y, l[i]? = some y ∧ RW m c y ∧ y.oneCell' = true := by
  have hi : i < cs.length := (List.getElem?_eq_some_iff.1 hc).1
  have hl := cells_len h
  have hx : l[i]? = some (l[i]'(by omega)) := List.getElem?_eq_getElem (by omega)
  have := (RWs_iff.1 h).2 i c (l[i]'(by omega)) hc (by rw [List.getElem?_take, if_pos hi, hx])
  exact ⟨_, hx, this.1, this.2 rfl⟩
theorem cells_sub {cs : List W} {l : List Value} (h : RWs m true cs (l.take cs.length)) {off n : Nat} (hn : off + n ≤ cs.length) : RWs m true ((cs.drop off).take n) ((l.drop off).take n) := by
  have := RWs_take (RWs_drop h off) n
  rw [List.drop_take, List.take_take, Nat.min_eq_left (by omega)] at this
  exact this

theorem take_sound {t : TypeId} {cs : List W} {i : Nat} {xs : List Value} (hg : (takeW P t cs i).go st K) (hc : RWs m true cs (xs.take cs.length)) :
    ∃ c x, RW m c x ∧ K c st ∧ (∀ g, cellsAt w.heap g = xs → (Instr.loadAt t (.pointer (some ⟨g, i, none⟩))).run P w = .ok x w) ∧ (xs.length = cs.length → (part t xs.toArray i).run P w = .ok x w) := by
  have hl := cells_len hc
  unfold takeW at hg
  split at hg
  · next n ha hs =>
    obtain ⟨hi, hk⟩ := hg
    have hex : ((xs.drop i).take n).toArray = xs.toArray.extract i (i + n) := by
      apply Array.ext'
      simp [Array.toList_extract, List.extract]
    refine ⟨.agg ((cs.drop i).take n), .agg ((xs.drop i).take n).toArray, ⟨_, rfl, by simpa using cells_sub hc hi⟩, hk, ?_, ?_⟩
    · intro g he
      rw [load_agg_run ha hs (by rw [he]; omega), he]
    · intro _
      simp only [part, Sem.run_bind, isAgg_run ha, Result.andThen_ok, if_true, sz_run hs, Sem.run_pure, hex]
  · next n ha hs =>
    split at hg
    · next c hc' =>
      obtain ⟨y, hy, hr, ho⟩ := cells_get hc hc'
      refine ⟨c, y, hr, hg, ?_, ?_⟩
      · intro g he
        exact load_one_run ha (by rw [he]; exact hy)
      · intro _
        simp [part, isAgg_run ha, hy]
    · cases hg
  · cases hg

theorem getO {b : Nat} {k : B → T} (hg : (T.get b k).go st K) : ∃ y, look st b = some y ∧ (k y).go st K := by
  unfold T.go at hg
  cases hl : look st b with
  | none => rw [hl] at hg; cases hg
  | some y => rw [hl] at hg; exact ⟨y, rfl, hg⟩

theorem load_d (h : RelM O w0 M0 N0 U m sz tm st a w) {t : TypeId} {x : Operand} (ho : o.op = .load t x) (hx : RW m (ρ x) (a.eval x)) (hg : (opM P id ρ o).go st K) : Did P o a w O w0 M0 N0 U m sz tm id K := by
  simp only [opM, ho] at hg
  split at hg
  · next b off hb =>
    rw [hb] at hx
    obtain ⟨g, C, hm, hx'⟩ := hx
    replace hg := getO hg
    obtain ⟨y, hl, hg⟩ := hg
    split at hg
    · next cs e size =>
      obtain ⟨g', C', arr, h1, h2, h3, h4, h5⟩ := h.hst b _ hl
      rw [hm] at h1; cases h1
      obtain ⟨c, v, hv, hk, hrun, _⟩ := take_sound (w := w) hg h4
      refine did_val h (c := c) (x := v) ?_ hv hk
      simp [execOp, ho, hx', hrun g (cellsAt_of h3)]
    · cases hg
  · cases hg

theorem cells_rel {c : W} {x : Value} {cs : List W} (hc : cellsW c = some cs) (hx : RW m c x) : RWs m true cs x.cells.toList := by
  have one : ∀ {c : W}, RW m c x → x.oneCell' = true → RWs m true [c] x.cells.toList := by
    intro c h h1
    have : x.cells.toList = [x] := by cases x <;> first | rfl | simp [Value.oneCell'] at h1
    rw [this]
    exact ⟨⟨h, fun _ => h1⟩, trivial⟩
  cases c with
  | agg cs' => cases hc; obtain ⟨arr, rfl, h⟩ := hx; exact h
  | v y =>
    simp only [cellsW] at hc
    split at hc
    · next h1 => cases hc; have : x = y := hx; exact one hx (by rw [this]; exact h1)
    · cases hc
  | fn g caps => cases hc; obtain ⟨_, he, _⟩ := id hx; exact one hx (by rw [he]; rfl)
  | ptr b off => cases hc; obtain ⟨_, _, _, he⟩ := id hx; exact one hx (by rw [he]; rfl)
  | sl b off n cp => cases hc; obtain ⟨_, _, _, _, _, he, _⟩ := id hx; exact one hx (by rw [he]; rfl)
  | mp b => cases hc; obtain ⟨_, _, _, he⟩ := id hx; exact one hx (by rw [he]; rfl)
  | ifc t y => cases hc; obtain ⟨_, he, _⟩ := id hx; exact one hx (by rw [he]; rfl)
  | yld b => cases hc
  | top => cases hc
  | tup _ => cases hc

theorem store_d (h : RelM O w0 M0 N0 U m sz tm st a w) {t : TypeId} {p x : Operand} (ho : o.op = .store t p x) (hp : RW m (ρ p) (a.eval p)) (hx : RW m (ρ x) (a.eval x)) (hg : (opM P id ρ o).go st K) : Did P o a w O w0 M0 N0 U m sz tm id K := by
  simp only [opM, ho] at hg
  split at hg
  · next b off new n hb hc hs =>
    rw [hb] at hp
    obtain ⟨g, C, hm, hp'⟩ := hp
    have hr := cells_rel hc hx
    have hvs : (a.eval x).cells.size = new.length := by have := RWs_length hr; simpa using this.symm
    replace hg := getO hg
    obtain ⟨y, hl, hg⟩ := hg
    split at hg
    · next cs e size =>
      obtain ⟨⟨hn, hoff⟩, hk⟩ := hg
      obtain ⟨g', C', arr, h1, h2, h3, h4, h5⟩ := h.hst b _ hl
      rw [hm] at h1; cases h1
      have hlen : cs.length ≤ arr.size := by have := cells_len h4; simpa using this
      have hR := h.setRow (x1 := .cells (cs.take off ++ new ++ cs.drop (off + n)) e size) (arr' := (arr.toList.take off ++ (a.eval x).cells.toList ++ arr.toList.drop (off + n)).toArray) hl (by simp) hm h2 h3
        (fun hh => ⟨_, _, _, hm, h2, hh, by
          have e3 := RWs_splice (off := off) (n := n) h4 hr
          have e4 : (cs.take off ++ new ++ cs.drop (off + n)).length = cs.length := by
            simp only [List.length_append, List.length_take, List.length_drop]; omega
          rw [e4]
          refine Eq.mp (congrArg (RWs m true _) ?_) e3
          have hv2 : (a.eval x).cells.toList.length = n := by simp; omega
          apply List.ext_getElem?
          intro j
          rw [List.getElem?_take]
          rw [splice_get arr.toList (a.eval x).cells.toList off n hv2 (by simp; omega) j]
          rw [splice_get (List.take cs.length arr.toList) (a.eval x).cells.toList off n hv2 (by rw [List.length_take]; simp; omega) j]
          rw [List.getElem?_take]
          by_cases h1 : j < off
          · simp [h1, show j < cs.length by omega]
          · by_cases h2 : j < off + n
            · simp [h1, h2, show j < cs.length by omega]
            · simp [h1, h2], fun hz => by
          rw [← h5 hz]
          simp only [List.size_toArray, List.length_append, List.length_take, List.length_drop, Array.length_toList]
          omega⟩)
      refine ⟨.skip, undef, _, m, .top, _, ?_, .inr ⟨rfl, rfl⟩, hR.weakU fun _ e => e.1, fun _ _ e => e, trivial, hk⟩
      have := store_run (P := P) (w := w) (off := off) hs (by omega) h3 (by omega) (RWs_ones hr)
      simp [execOp, ho, hp', this]
    · cases hg
  · cases hg

theorem alloc_d (h : RelM O w0 M0 N0 U m sz tm st a w) (hU : U id) {t : TypeId} (ho : o.op = .alloc t) (hg : (opM P id ρ o).go st K) : Did P o a w O w0 M0 N0 U m sz tm id K := by
  simp only [opM, ho] at hg
  split at hg
  · next z hz =>
    obtain ⟨v, hrun, hzv, hone, _⟩ := zeroW_run w hz
    obtain ⟨hR, hm⟩ := h.new (id := id) 0 hU (o := .cells v.cells t) (x := .cells z t 0) (by simp) (by
      intro m' hm hid hh
      refine ⟨_, _, v.cells, hid, h.own_new, hh, ?_, fun e => absurd rfl e⟩
      subst hzv
      rw [List.take_of_length_le (by simp)]
      exact RWs_vals hone)
    refine ⟨_, .pointer (some ⟨w.heap.size, 0, none⟩), _, _, .ptr id 0, _, ?_, .inl rfl, hR, hm, ⟨w.heap.size, 0, by simp, rfl⟩, hg⟩
    simp [execOp, ho, Instr.alloc, hrun, newVar, newRow]
  · cases hg

theorem box_d (h : RelM O w0 M0 N0 U m sz tm st a w) (hU : U id) {t : TypeId} {x : Operand} (ho : o.op = .box t x) (hx : RW m (ρ x) (a.eval x)) (hg : (opM P id ρ o).go st K) : Did P o a w O w0 M0 N0 U m sz tm id K := by
  simp only [opM, ho] at hg
  split at hg
  · next cs hcs =>
    have hr := cells_rel hcs hx
    obtain ⟨hR, hm⟩ := h.new (id := id) 0 hU (o := .cells (a.eval x).cells t) (x := .cells cs t 0) (by simp) (by
      intro m' hm hid hh
      refine ⟨_, _, (a.eval x).cells, hid, h.own_new, hh, ?_, fun e => absurd rfl e⟩
      rw [List.take_of_length_le (by have := RWs_length hr; omega)]
      exact RWs.mono hm _ _ hr)
    refine ⟨_, .pointer (some ⟨w.heap.size, 0, none⟩), _, _, .ptr id 0, _, ?_, .inl rfl, hR, hm, ⟨w.heap.size, 0, by simp, rfl⟩, hg⟩
    simp [execOp, ho, Instr.box, newVar, newRow]
  · cases hg

theorem fill_d {place : Nat → Option (Nat × Nat)} : ∀ {l : List (Nat × W)} {vs : List (Nat × Value)} {cells : List W} {xs : Array Value} {k : List W → T},
    (fillW place cells l k).go st K → RWs m true cells xs.toList → l.length = vs.length → (∀ (i : Nat) (c : Nat × W) (x : Nat × Value), l[i]? = some c → vs[i]? = some x → c.1 = x.1 ∧ RW m c.2 x.2) →
    ∃ cs ys, Instr.fill place xs vs = some ys ∧ RWs m true cs ys.toList ∧ (k cs).go st K ∧ ys.size = xs.size
  | [], [], cells, xs, k, hg, hr, _, _ => ⟨cells, xs, rfl, hr, hg, rfl⟩
  | [], _ :: _, _, _, _, _, _, hl, _ => by simp at hl
  | _ :: _, [], _, _, _, _, _, hl, _ => by simp at hl
  | (i, c) :: l, (i', x) :: vs, cells, xs, k, hg, hr, hl, hv => by
    obtain ⟨hi, hx⟩ := hv 0 _ _ rfl rfl
    simp only at hi hx
    subst hi
    simp only [fillW] at hg
    split at hg
    · next off size cs hp hc =>
      obtain ⟨⟨h1, h2⟩, hg⟩ := hg
      have hrv := cells_rel hc hx
      have hcs : x.cells.size = size := by have := RWs_length hrv; simp at this; omega
      have hxs : cells.length = xs.size := by have := RWs_length hr; simpa using this
      have hset := foldl_set off x.cells.toList 0 xs (by simp; omega)
      simp only [Nat.add_zero, Array.length_toList, hcs] at hset
      have e : (x.cells.zipIdx.foldl (fun cs p => cs.setIfInBounds (off + p.2) p.1) xs).toList = xs.toList.take off ++ x.cells.toList ++ xs.toList.drop (off + size) := by
        rw [← hset, ← Array.foldl_toList]
        simp
      have hsize : (x.cells.zipIdx.foldl (fun cs p => cs.setIfInBounds (off + p.2) p.1) xs).size = xs.size := by
        rw [← Array.length_toList, e]
        simp only [List.length_append, List.length_take, List.length_drop, Array.length_toList]
        omega
      obtain ⟨cs', ys, e1, e2, e3, e4⟩ := fill_d (xs := x.cells.zipIdx.foldl (fun cs p => cs.setIfInBounds (off + p.2) p.1) xs) hg (by
        rw [e]
        exact RWs_splice hr hrv) (by simpa using hl) (fun j c x hc hx => hv (j + 1) c x (by simpa using hc) (by simpa using hx))
      refine ⟨cs', ys, ?_, e2, e3, by rw [e4, hsize]⟩
      simp only [Instr.fill, hp, hcs]
      rw [if_neg (by simp; omega)]
      exact e1
    · cases hg

theorem parts_d {l : List (Nat × Operand)} (hρ : ∀ p ∈ l, RW m (ρ p.2) (a.eval p.2)) : (l.map fun (i, x) => (i, ρ x)).length = (l.map fun (i, x) => (i, a.eval x)).length ∧
    ∀ (i : Nat) (c : Nat × W) (x : Nat × Value), (l.map fun (i, x) => (i, ρ x))[i]? = some c → (l.map fun (i, x) => (i, a.eval x))[i]? = some x → c.1 = x.1 ∧ RW m c.2 x.2 := by
  refine ⟨by simp, fun i c x hc hx => ?_⟩
  rw [List.getElem?_map] at hc hx
  cases he : l[i]? with
  | none => simp [he] at hc
  | some p =>
    simp only [he, Option.map_some, Option.some.injEq] at hc hx
    subst hc hx
    exact ⟨rfl, hρ p (List.mem_of_getElem? he)⟩

theorem build_d (h : RelM O w0 M0 N0 U m sz tm st a w) {t : TypeId} {parts : Array (Nat × Operand)} (ho : o.op = .build t parts) (hρ : ∀ p ∈ parts.toList, RW m (ρ p.2) (a.eval p.2)) (hg : (opM P id ρ o).go st K) : Did P o a w O w0 M0 N0 U m sz tm id K := by
  simp only [opM, ho] at hg
  split at hg
  · next z pl hz hpl =>
    obtain ⟨v, hrun, hzv, hone, it, hit, hitz, hsz⟩ := zeroW_run w hz
    subst hzv
    obtain ⟨hl, hv⟩ := parts_d hρ
    obtain ⟨cs, ys, hf, hr, hk, _⟩ := fill_d hg (RWs_vals hone) hl hv
    have hb : P.built t (parts.toList.map fun (i, x) => (i, a.eval x)) = some ys := by
      simp only [placesOf] at hpl
      unfold Program.built
      simp only [hit]
      split at hpl
      · next fs hu =>
        split at hpl
        · next l hm =>
          cases hpl
          simp only [hu, hitz, hm]
          exact hf
        · cases hpl
      · next n e hu =>
        split at hpl
        · next ie hie =>
          cases hpl
          simp only [hu, hitz, hie]
          exact hf
        · cases hpl
      · cases hpl
    refine did_val h (c := .agg cs) (x := .agg ys) ?_ ⟨ys, rfl, hr⟩ hk
    have := run_build (P := P) w t (parts.map fun (i, x) => (i, a.eval x)) ys (by simpa using hb)
    simp [execOp, ho, this]
  · cases hg

theorem rep_get {z : List Value} {size : Nat} (hs : z.length = size) (hpos : 0 < size) : ∀ (n : Nat), (List.replicate n (z.map W.v)).flatten.length = n * size ∧ (List.replicate n z).flatten.length = n * size ∧
    (∀ i (hi : i < n * size), (List.replicate n z).flatten[i]? = some (z[i % size]'(by rw [hs]; exact Nat.mod_lt _ hpos))) ∧ (List.replicate n (z.map W.v)).flatten = ((List.replicate n z).flatten).map W.v
  | 0 => by simp
  | n + 1 => by
    obtain ⟨h1, h2, h3, h4⟩ := rep_get hs hpos n
    simp only [List.replicate_succ, List.flatten_cons, List.length_append, List.length_map, h1, h2, h4, List.map_append]
    refine ⟨by rw [Nat.add_mul]; omega, by rw [Nat.add_mul]; omega, fun i hi => ?_, trivial⟩
    by_cases hlt : i < z.length
    · rw [List.getElem?_append_left hlt, List.getElem?_eq_getElem hlt]
      simp [Nat.mod_eq_of_lt (hs ▸ hlt)]
    · rw [List.getElem?_append_right (by omega), show i - z.length = i - size from by rw [hs], h3 (i - size) (by rw [Nat.add_mul] at hi; omega)]
      congr 2
      exact (Nat.mod_eq_sub_mod (by omega)).symm

/-- The cells of a new row: all of them zero. -/
theorem rep_RWs {v : Value} {size n : Nat} (hone : ∀ x ∈ v.cells.toList, x.oneCell' = true) (hs : v.cells.size = size) (hpos : 0 < size) :
    RWs m true (List.replicate n (v.cells.toList.map W.v)).flatten ((Array.range (n * size)).map (fun i => v.cells[i % v.cells.size]!)).toList := by
  obtain ⟨h1, h2, h3, h4⟩ := rep_get (z := v.cells.toList) (size := size) (by simp [hs]) hpos n
  rw [h4]
  have e : ((Array.range (n * size)).map (fun i => v.cells[i % v.cells.size]!)).toList = (List.replicate n v.cells.toList).flatten := by
    apply List.ext_getElem?
    intro i
    by_cases hi : i < n * size
    · rw [h3 i hi]
      have him : i % size < v.cells.size := by rw [hs]; exact Nat.mod_lt _ hpos
      simp [hi, hs]
      exact getElem!_pos v.cells (i % size) him
    · rw [List.getElem?_eq_none (by simp; omega), List.getElem?_eq_none (by rw [h2]; omega)]
  rw [e]
  refine RWs_vals fun x hx => ?_
  obtain ⟨l, hl, hx⟩ := List.mem_flatten.1 hx
  obtain ⟨_, rfl⟩ := List.mem_replicate.1 hl
  exact hone x hx

/-- A new row. -/
theorem row_d (h : RelM O w0 M0 N0 U m sz tm st a w) (hU : U id) {e : TypeId} {size n : Nat} {cs : List W} {arr : Array Value} (hc : RWs m true cs (arr.toList.take cs.length)) (hl : arr.size = n * size) :
    RelM O w0 M0 N0 (fun b => U b ∧ b ≠ id) (fun b => if b = id then some (w.heap.size, n) else m b) sz tm ((id, .cells cs e size) :: st) a (w.alloc (.cells arr e)) ∧
    (∀ b y, m b = some y → (fun b => if b = id then some (w.heap.size, n) else m b) b = some y) :=
  h.new (id := id) n hU (o := .cells arr e) (x := .cells cs e size) (by simp) (by
    intro m' hm hid hh
    exact ⟨_, _, arr, hid, h.own_new, hh, RWs.mono hm _ _ hc, fun _ => hl⟩)

theorem buildSlice_d (h : RelM O w0 M0 N0 U m sz tm st a w) (hU : U id) {t : TypeId} {n : Nat} {parts : Array (Nat × Operand)} (ho : o.op = .buildSlice t n parts) (hρ : ∀ p ∈ parts.toList, RW m (ρ p.2) (a.eval p.2)) (hg : (opM P id ρ o).go st K) : Did P o a w O w0 M0 N0 U m sz tm id K := by
  simp only [opM, ho] at hg
  split at hg
  · next e he =>
    have hu := elem_u he
    split at hg
    · next size z hs hz =>
      obtain ⟨⟨hpos, h24⟩, hg⟩ := hg
      obtain ⟨v, hrun, hzv, hone, it, hit, hitz, hvsz⟩ := zeroW_run w hz
      have hsize : v.cells.size = size := by simp [szOf, hit] at hs; omega
      subst hzv
      obtain ⟨hl, hv⟩ := parts_d hρ
      obtain ⟨cs, ys, hf, hr, hk, hys⟩ := fill_d hg (rep_RWs (n := n) hone hsize hpos) hl hv
      have hys' : ys.size = n * size := by rw [hys]; simp
      have hnm : n ≤ maxLen := by
        have : n ≤ n * size := Nat.le_mul_of_pos_right n hpos
        unfold maxLen; omega
      obtain ⟨hR, hm⟩ := row_d h hU (e := e) (size := size) (n := n) (cs := cs) (arr := ys) (by rw [List.take_of_length_le (by have := RWs_length hr; omega)]; exact hr) hys'
      refine ⟨_, .slice (some ⟨w.heap.size, 0, none⟩) n n, w.alloc (.cells ys e), _, .sl id 0 n (some n), _, ?_, .inl rfl, hR, hm, ⟨w.heap.size, n, 0, n, by simp, rfl, .inl rfl, Nat.le_refl _, hnm, by simp, by simp⟩, hk⟩
      have hf' : Instr.fill (fun i => some (i * size, size)) (Array.map (fun i => v.cells[i % v.cells.size]!) (Array.range (n * size))) (parts.toList.map fun (i, x) => (i, a.eval x)) = some ys := hf
      by_cases h0 : n * size = 0
      · rw [h0] at hf'
        simp only [execOp, ho, Instr.buildSlice, Sem.run_bind, run_underlying hu, Result.andThen_ok, sz_run hs, Sem.run_ite, h0, if_true, Sem.run_pure]
        simp only [Array.toList_map]
        simp only [show ¬ ((0 : Nat) > 2 ^ 24) by decide, if_false, Result.andThen_ok, Sem.run_pure]
        have hz : Array.map (fun i => (#[] : Array Value)[i % (#[] : Array Value).size]!) (Array.range 0) = Array.map (fun i => v.cells[i % v.cells.size]!) (Array.range 0) := by simp
        rw [hz, hf']
        simp [newRow]
      · have h24' : ¬ (n * size > 2 ^ 24) := by omega
        simp only [execOp, ho, Instr.buildSlice, Sem.run_bind, run_underlying hu, Result.andThen_ok, sz_run hs, Sem.run_ite, h0, h24', if_false, Sem.run_pure, hrun]
        simp only [Array.toList_map]
        rw [hf']
        simp [newRow]
    · cases hg
  · cases hg

theorem makeSlice_d (h : RelM O w0 M0 N0 U m sz tm st a w) (hU : U id) {t : TypeId} {ln cp : Operand} (ho : o.op = .makeSlice t ln cp) (hln : RW m (ρ ln) (a.eval ln)) (hcp : RW m (ρ cp) (a.eval cp)) (hg : (opM P id ρ o).go st K) : Did P o a w O w0 M0 N0 U m sz tm id K := by
  simp only [opM, ho] at hg
  split at hg
  · next i j e hi hj he =>
    have hu := elem_u he
    rw [hi] at hln; rw [hj] at hcp
    have hln' : a.eval ln = .int .i64 (i : Int) := hln
    have hcp' : a.eval cp = .int .i64 (j : Int) := hcp
    split at hg
    · next size bytes z hs hb hz =>
      obtain ⟨⟨hij, hbig, hpos, hmax⟩, hg⟩ := hg
      obtain ⟨v, hrun, hzv, hone, it, hit, hitz, hvsz⟩ := zeroW_run w hz
      have hsize : v.cells.size = size := by simp [szOf, hit] at hs; omega
      have hbytes : it.bytes = bytes := by simpa [bytesOf, hit] using hb
      subst hzv
      have hrw := rep_RWs (m := m) (n := j) hone hsize hpos
      obtain ⟨hR, hm⟩ := row_d h hU (e := e) (size := size) (n := j) (cs := (List.replicate j (v.cells.toList.map W.v)).flatten) (arr := (Array.range (j * size)).map (fun i => v.cells[i % v.cells.size]!)) (by rw [List.take_of_length_le (by have := RWs_length hrw; omega)]; exact hrw) (by simp)
      refine ⟨_, .slice (some ⟨w.heap.size, 0, none⟩) i j, _, _, .sl id 0 i (some j), _, ?_, .inl rfl, hR, hm, ⟨w.heap.size, j, 0, j, by simp, rfl, .inl rfl, hij, hmax, by simp, by simp⟩, hg⟩
      have hbig' : (it.bytes : Int) * j ≤ 281474976710656 := by
        have h := Int.ofNat_le.2 hbig
        rw [Int.natCast_mul] at h
        rw [hbytes, Int.mul_comm]; exact h
      have hsmall : j ≤ 9223372036854775807 := by unfold maxLen at hmax; omega
      have := run_make (P := P) w t e it v hu hit hitz .i64 .i64 (i : Int) (j : Int) (by omega) (by omega) hbig' (by omega)
      have hits : it.size = size := by omega
      simp only [Int.toNat_natCast, hits] at this
      simp only [execOp, ho, hln', hcp', Sem.run_bind, this]
      rfl
    · cases hg
  · cases hg
end
end
end Go.Ev.Mi
/- The mirror machine: the operations are done as the model does them: lists, maps, all of them. -/
set_option linter.unusedVariables false
set_option linter.unusedSimpArgs false
namespace Go.Ev.Mi
open Go.RowKit

section
variable {P : Program}
variable {O : Nat → Prop} {w0 : World} {M0 : MM} {N0 : Nat} {U : Nat → Prop} {m : MM} {sz : Nat} {tm : TW} {st : SB} {a : Act} {w : World} {id : Nat} {K : W → SB → Prop} {o : Oper} {ρ : Operand → W}

theorem src_d (h : RelM O w0 M0 N0 U m sz tm st a w) {size : Nat} {c : W} {x : Value} (hx : RW m c x) {k : List W → Nat → T} (hg : (srcW size c k).go st K) :
    ∃ new n ad cp xs, (k new n).go st K ∧ x = .slice ad n cp ∧ RWs m true new xs ∧ (ad = none → n = 0) ∧ ∀ q, ad = some q → ∀ (j : Nat) (u : Value), xs[j]? = some u → w.cell? (q.add j) = some u := by
  unfold srcW at hg
  split at hg
  · next b off n cap =>
    obtain ⟨g, C, o', c', hm, rfl, ho, hn, hc, _, _⟩ := hx
    replace hg := getO hg
    obtain ⟨y, hl, hg⟩ := hg
    split at hg
    · next cs e s' =>
      obtain ⟨hle, hg⟩ := hg
      obtain ⟨g', C', arr, h1, h2, h3, h4, h5⟩ := h.hst b _ hl
      rw [hm] at h1; cases h1
      refine ⟨_, n, _, c', (arr.toList.drop off).take (n * size), hg, rfl, cells_sub h4 hle, fun e => (by cases e), fun q hq j u hj => ?_⟩
      cases hq
      rw [List.getElem?_take] at hj
      split at hj
      · next hjn =>
        have hn0 : n ≠ 0 := by rintro rfl; simp at hjn
        have ho' : o' = off := ho.resolve_right (by omega)
        rw [Addr.add_lit, ho']
        refine cell?_at ?_
        rw [cellsAt_of h3, ← List.getElem?_drop]
        exact hj
      · cases hj
    · cases hg
  · next kk cp =>
    have hx' : x = .slice none 0 cp := hx
    exact ⟨[], 0, none, cp, [], hg, hx', trivial, fun _ => rfl, fun q hq => (by cases hq)⟩
  · cases hg

theorem run_append_at {t ty e : TypeId} {i : TypeInfo} (ht : P.underlying t = some (.slice e)) (hi : P.info? e = some i)
    (g off sLen sCap : Nat) (cur : Array Value) (hg : w.heap[g]? = some (.cells cur e (0, 0)))
    (q : Addr) (k c : Nat) (news : List Value) (hl : news.length = k * i.size) (hnews : ∀ j u, news[j]? = some u → w.cell? (q.add j) = some u) (h1 : ∀ u ∈ news, u.oneCell' = true)
    (hroom : sLen + k ≤ sCap) (hfit : off + sLen * i.size + news.length ≤ cur.size) :
    (Builtin.append_ #[t, t] ty #[.slice (some ⟨g, off, none⟩) sLen sCap, .slice (some q) k c]).run P w =
      .ok (.slice (some ⟨g, off, none⟩) (sLen + k) sCap) (w.setRow g (cur.toList.take (off + sLen * i.size) ++ news ++ cur.toList.drop (off + sLen * i.size + news.length)).toArray) := by
  have hf := run_firstCells_some (P := P) w i.size k q k c news hl hnews
  have hst := run_storeCells_at P g (off + sLen * i.size) e news 0 cur w hg (by simpa using hfit) h1
  simp only [Nat.add_zero] at hst
  simp [Builtin.append_, run_underlying ht, sizeOf, typeInfo, hi, Builtin.lenOf, hroom, hf, Addr.add_lit, hst]

theorem run_append_zero {t ty e : TypeId} {i : TypeInfo} (ht : P.underlying t = some (.slice e)) (hi : P.info? e = some i) (base ad : Option Addr) (sLen sCap cp : Nat) (hn : sLen ≤ sCap) :
    (Builtin.append_ #[t, t] ty #[.slice base sLen sCap, .slice ad 0 cp]).run P w = .ok (.slice base sLen sCap) w := by
  have hf : (Builtin.firstCells i.size 0 (.slice ad 0 cp)).run P w = .ok #[] w := by
    cases ad <;> simp [Builtin.firstCells, loadCells, loadCellsFrom]
  cases base <;> simp [Builtin.append_, run_underlying ht, sizeOf, typeInfo, hi, Builtin.lenOf, hn, hf, storeCells]

theorem splice_RWs {cs new : List W} {cur xs : List Value} {off n : Nat} (h : RWs m true cs (cur.take cs.length)) (k : RWs m true new xs) (hn : new.length = n) (ho : off + n ≤ cs.length) :
    RWs m true (cs.take off ++ new ++ cs.drop (off + n)) ((cur.take off ++ xs ++ cur.drop (off + n)).take (cs.take off ++ new ++ cs.drop (off + n)).length) := by
  have hlen := cells_len h
  have hxl : xs.length = n := by rw [← hn]; exact (RWs_length k).symm
  have e3 := RWs_splice (off := off) (n := n) h k
  have e4 : (cs.take off ++ new ++ cs.drop (off + n)).length = cs.length := by
    simp only [List.length_append, List.length_take, List.length_drop]; omega
  rw [e4]
  refine Eq.mp (congrArg (RWs m true _) ?_) e3
  apply List.ext_getElem?
  intro j
  rw [List.getElem?_take]
  rw [splice_get cur xs off n hxl (by omega) j]
  rw [splice_get (List.take cs.length cur) xs off n hxl (by rw [List.length_take]; omega) j]
  rw [List.getElem?_take]
  by_cases h1 : j < off
  · simp [h1, show j < cs.length by omega]
  · by_cases h2 : j < off + n
    · simp [h1, h2, show j < cs.length by omega]
    · simp [h1, h2]

theorem append_d (h : RelM O w0 M0 N0 U m sz tm st a w) (hU : U id) {s x : Operand} {t u : TypeId} (ho : o.op = .call { callee := .builtin .append, args := #[s, x], argTypes := #[t, u] }) (hs : RW m (ρ s) (a.eval s)) (hx : RW m (ρ x) (a.eval x))
    (hg : (appendW P id t u (ρ s) (ρ x)).go st K) : Did P o a w O w0 M0 N0 U m sz tm id K := by
  unfold appendW at hg
  obtain ⟨htu, hg⟩ := hg
  subst htu
  split at hg
  · cases hg
  · next e he =>
    have hu := elem_u he
    split at hg
    · next size bytes z hsz hby hz =>
      obtain ⟨v, hrun, hzv, hone, it, hit, hitz, hvsz⟩ := zeroW_run w hz
      have hits : it.size = size := by simpa [szOf, hit] using hsz
      have hitb : it.bytes = bytes := by simpa [bytesOf, hit] using hby
      obtain ⟨new, k, ad, cp, xs, hg, hx', hxs, hnone, hcell⟩ := src_d h hx hg
      obtain ⟨⟨hkl, hpos⟩, hg⟩ := hg
      have hxl : xs.length = k * size := by rw [← RWs_length hxs]; exact hkl
      have hex : ∀ {y : Value} {w' : World}, (Builtin.append_ #[t, t] o.type #[a.eval s, a.eval x]).run P w = .ok y w' → (execOp a.eval o).run P w = .ok (.value y) w' := by
        intro y w' hr
        rw [run_builtin ho]
        simp [builtin, hr]
      split at hg
      · -- nothing is appended
        split at hg
        · next b off n c hb =>
          rw [hb] at hs
          have hs0 := hs
          obtain ⟨g, C, o', c', hm, hs', h1, h2, h3, h4, h5⟩ := hs
          exact did_val h (hex (by rw [hs', hx']; exact run_append_zero hu hit _ _ _ _ _ h2)) (by rw [← hs']; exact hs0) hg
        · next hb =>
          rw [hb] at hs
          have hs' : a.eval s = .slice none 0 0 := hs
          exact did_val h (c := .v (.slice none 0 0)) (hex (by rw [hs', hx']; exact run_append_zero hu hit _ _ _ _ _ (Nat.le_refl _))) rfl hg
        · cases hg
      · next k' =>
        obtain ⟨q, rfl⟩ : ∃ q, ad = some q := by
          cases ad with
          | none => have := hnone rfl; omega
          | some q => exact ⟨q, rfl⟩
        replace hcell := hcell q rfl
        generalize hk : Nat.succ k' = k at *
        have hk0 : 0 < k := by omega
        split at hg
        · next hb =>
          rw [hb] at hs
          have hs' : a.eval s = .slice none 0 0 := hs
          obtain ⟨⟨hkm, hkb⟩, hg⟩ := hg
          have hr := run_append_nil (P := P) w t o.type e it v hu hit hitz q k cp xs (by rw [hits]; exact hxl) hcell hk0 (by unfold maxLen at hkm; omega) (by rw [hitb]; omega)
          have hge := grownCap_ge w k 0 e
          have hcm := grownCap_le_maxLen w k 0 e hkm
          obtain ⟨hR, hm⟩ := row_d h.drew hU (id := id) (e := e) (size := size) (n := grownCap w k 0 e) (cs := new) (arr := xs.toArray ++ Builtin.zeroCells v.cells (grownCap w k 0 e - k)) (by
            have : new.length = xs.length := RWs_length hxs
            rw [this]
            simpa using hxs) (by
            have h1 : (Builtin.zeroCells v.cells (grownCap w k 0 e - k)).size = (grownCap w k 0 e - k) * size := by rw [size_zeroCells, hvsz, hits]
            rw [Array.size_append, h1, List.size_toArray, hxl, ← Nat.add_mul]
            congr 1; omega)
          exact ⟨_, _, _, _, .sl id 0 k none, _, hex (by rw [hs', hx']; exact hr), .inl rfl, hR, hm, ⟨w.heap.size, _, 0, grownCap w k 0 e, by simp, rfl, .inl rfl, hge, hcm, fun _ e => (by cases e), fun _ _ => rfl⟩, hg⟩
        · next b off n c hb =>
          rw [hb] at hs
          obtain ⟨g, C, o', c', hm, hs', hoo, hnc, hcm, hce, _⟩ := hs
          obtain rfl := hce c rfl
          replace hg := getO hg
          obtain ⟨y, hl, hg⟩ := hg
          split at hg
          · next cs e' size' =>
            obtain ⟨g', C', arr, h1, h2, h3, h4, h5⟩ := h.hst b _ hl
            rw [hm] at h1; cases h1
            have hlen : cs.length ≤ arr.size := by have := cells_len h4; simpa using this
            split at hg
            · next hroom =>
              have hroom : n + k ≤ c' := Nat.le_of_ble_eq_true hroom
              obtain ⟨⟨rfl, hfit⟩, hg⟩ := hg
              have ho' : o' = off := hoo.resolve_right (by omega)
              subst ho'
              have hfit2 : o' + n * size + k * size ≤ cs.length := by rw [Nat.add_mul] at hfit; omega
              have hr := run_append_at (P := P) (ty := o.type) hu hit g o' n c' arr h3 q k cp xs (by rw [hits]; exact hxl) hcell (RWs_ones hxs) hroom (by rw [hits, hxl]; omega)
              rw [hits, hxl] at hr
              have hR := h.setRow (x1 := .cells (cs.take (o' + n * size) ++ new ++ cs.drop (o' + n * size + k * size)) e' size') (arr' := (arr.toList.take (o' + n * size) ++ xs ++ arr.toList.drop (o' + n * size + k * size)).toArray) hl (by simp) hm h2 h3
                (fun hh => ⟨_, _, _, hm, h2, hh, splice_RWs h4 hxs hkl hfit2, fun hz => by
                  rw [← h5 hz]
                  simp only [List.size_toArray, List.length_append, List.length_take, List.length_drop, Array.length_toList]
                  omega⟩)
              exact ⟨_, _, _, m, .sl b o' (n + k) (some c'), _, hex (by rw [hs', hx']; exact hr), .inl rfl, hR.weakU fun _ e => e.1, fun _ _ e => e, ⟨g, C, o', c', hm, rfl, .inl rfl, hroom, hcm, fun _ e => (by cases e; rfl), fun e => by cases e⟩, hg⟩
            · next hroom =>
              have hroom : c' < n + k := Nat.lt_of_not_le fun e => by rw [Nat.ble_eq_true_of_le e] at hroom; cases hroom
              obtain ⟨⟨hfit, hnk, hnb⟩, hg⟩ := hg
              have hlo : ((arr.toList.drop off).take (n * size)).length = n * size := by
                rw [List.length_take, List.length_drop, Array.length_toList]; omega
              have holds : ∀ (j : Nat) (u : Value), ((arr.toList.drop off).take (n * size))[j]? = some u → w.cell? ((⟨g, o', none⟩ : Addr).add j) = some u := by
                intro j u hj
                rw [List.getElem?_take] at hj
                split at hj
                · next hjn =>
                  have hn0 : n ≠ 0 := by rintro rfl; simp at hjn
                  rw [Addr.add_lit, hoo.resolve_right (by omega)]
                  refine cell?_at ?_
                  rw [cellsAt_of h3, ← List.getElem?_drop]
                  exact hj
                · cases hj
              have hr := run_append_grow (P := P) w t o.type e it v hu hit hitz ⟨g, o', none⟩ n c' ((arr.toList.drop off).take (n * size)) (by rw [hits]; exact hlo) holds q k cp xs (by rw [hits]; exact hxl) hcell (by omega) (by unfold maxLen at hnk; omega)
                (growslice_fits (by omega) (by rw [hitb]; exact hnb))
              have hge := grownCap_ge w (n + k) c' e
              have hcm' := grownCap_le_maxLen w (n + k) c' e hnk
              obtain ⟨hR, hmm⟩ := row_d h.drew hU (id := id) (e := e) (size := size) (n := grownCap w (n + k) c' e) (cs := (cs.drop off).take (n * size) ++ new) (arr := ((arr.toList.drop off).take (n * size)).toArray ++ xs.toArray ++ Builtin.zeroCells v.cells (grownCap w (n + k) c' e - (n + k))) (by
                have q1 := RWs_append (cells_sub h4 hfit) hxs
                have e5 : ((cs.drop off).take (n * size) ++ new).length = ((arr.toList.drop off).take (n * size) ++ xs).length := RWs_length q1
                rw [e5]
                have e6 : (((arr.toList.drop off).take (n * size)).toArray ++ xs.toArray ++ Builtin.zeroCells v.cells (grownCap w (n + k) c' e - (n + k))).toList = ((arr.toList.drop off).take (n * size) ++ xs) ++ (Builtin.zeroCells v.cells (grownCap w (n + k) c' e - (n + k))).toList := by simp
                rw [e6, List.take_left' rfl]
                exact q1) (by
                have h1 : (Builtin.zeroCells v.cells (grownCap w (n + k) c' e - (n + k))).size = (grownCap w (n + k) c' e - (n + k)) * size := by rw [size_zeroCells, hvsz, hits]
                rw [Array.size_append, Array.size_append, h1, List.size_toArray, List.size_toArray, hlo, hxl, ← Nat.add_mul, ← Nat.add_mul]
                congr 1; omega)
              exact ⟨_, _, _, _, .sl id 0 (n + k) none, _, hex (by rw [hs', hx']; exact hr), .inl rfl, hR, hmm, ⟨w.heap.size, _, 0, grownCap w (n + k) c' e, by simp, rfl, .inl rfl, hge, hcm', fun _ e => (by cases e), fun _ _ => rfl⟩, hg⟩
          · cases hg
        · next b n hb =>
          rw [hb] at hs
          obtain ⟨g, C, o', c', hm, hs', hoo, hnc, hcm, _, hce⟩ := hs
          obtain rfl := hce rfl rfl
          replace hg := getO hg
          obtain ⟨y, hl, hg⟩ := hg
          split at hg
          · next cs e' size' =>
            split at hg
            · next hfits =>
              have hfits : (n + k) * size ≤ cs.length := Nat.le_of_ble_eq_true hfits
              obtain ⟨⟨rfl, rfl⟩, hg1⟩ := hg
              obtain ⟨g', C', arr, h1, h2, h3, h4, h5⟩ := h.hst b _ hl
              rw [hm] at h1; cases h1
              have hz := h5 (by omega)
              have hlen : cs.length ≤ arr.size := by have := cells_len h4; simpa using this
              have hroom : n + k ≤ c' := Nat.le_of_mul_le_mul_right (Nat.le_trans hfits (Nat.le_trans hlen (Nat.le_of_eq hz))) (by omega)
              obtain rfl : o' = 0 := hoo.resolve_right (by omega)
              have hfit2 : 0 + n * size' + k * size' ≤ cs.length := by rw [Nat.add_mul] at hfits; omega
              have hr := run_append_at (P := P) (ty := o.type) hu hit g 0 n c' arr h3 q k cp xs (by rw [hits]; exact hxl) hcell (RWs_ones hxs) hroom (by rw [hits, hxl]; omega)
              rw [hits, hxl] at hr
              have hR := h.setRow (x1 := .cells (cs.take (0 + n * size') ++ new ++ cs.drop (0 + n * size' + k * size')) e' size') (arr' := (arr.toList.take (0 + n * size') ++ xs ++ arr.toList.drop (0 + n * size' + k * size')).toArray) hl (by simp) hm h2 h3
                (fun hh => ⟨_, _, _, hm, h2, hh, splice_RWs h4 hxs hkl hfit2, fun hz => by
                  rw [← h5 hz]
                  simp only [List.size_toArray, List.length_append, List.length_take, List.length_drop, Array.length_toList]
                  omega⟩)
              exact ⟨_, _, _, m, .sl b 0 (n + k) none, _, hex (by rw [hs', hx']; exact hr), .inl rfl, hR.weakU fun _ e => e.1, fun _ _ e => e, ⟨g, c', 0, c', hm, rfl, .inl rfl, hroom, hcm, (fun _ e => (by cases e)), fun _ _ => rfl⟩, hg1⟩
            · next hfits =>
              obtain ⟨⟨rfl, rfl, hnl, hnk, hnb⟩, hg⟩ := hg
              obtain ⟨g', C', arr, h1, h2, h3, h4, h5⟩ := h.hst b _ hl
              rw [hm] at h1; cases h1
              have h5 := h5 (by omega)
              have hlen : cs.length ≤ arr.size := by have := cells_len h4; simpa using this
              by_cases hroom : n + k ≤ c'
              · have ho' : o' = 0 := hoo.resolve_right (by omega)
                subst ho'
                have hcs : (n + k) * size' ≤ c' * size' := Nat.mul_le_mul_right _ hroom
                have hr := run_append_at (P := P) (ty := o.type) hu hit g 0 n c' arr h3 q k cp xs (by rw [hits]; exact hxl) hcell (RWs_ones hxs) hroom (by rw [hits, hxl, h5]; rw [Nat.add_mul] at hcs; omega)
                rw [hits, hxl, Nat.zero_add] at hr
                have hlen2 : n * size' + k * size' ≤ arr.toList.length := by rw [Array.length_toList, h5]; rw [Nat.add_mul] at hcs; omega
                have hR0 := h.setRow (x1 := .cells (cs ++ new) e' size') (arr' := (arr.toList.take (n * size') ++ xs ++ arr.toList.drop (n * size' + k * size')).toArray) hl (by simp) hm h2 h3
                  (fun hh => ⟨_, _, _, hm, h2, hh, by
                    rw [← hnl] at h4
                    have e3 := RWs_append h4 hxs
                    have e5 : (cs ++ new).length = n * size' + xs.length := by rw [List.length_append, ← hnl, RWs_length hxs]
                    rw [e5]
                    refine Eq.mp (congrArg (RWs m true _) ?_) e3
                    have e4 : (arr.toList.take (n * size') ++ xs).length = n * size' + xs.length := by
                      rw [List.length_append, List.length_take]
                      omega
                    exact (List.take_left' e4).symm, fun _ => by
                    rw [← h5]
                    simp only [List.size_toArray, List.length_append, List.length_take, List.length_drop, Array.length_toList] at hlen2 ⊢
                    omega⟩)
                obtain ⟨hR, hmm⟩ := hR0.rename (id := id) (x1 := .cells (cs ++ new) e' size') hU (by rw [look_cons, if_pos rfl]) (by simp) hm (by
                  intro m' hm' hid
                  obtain ⟨g2, C2, cur2, q1, q2, q3, q4, q5⟩ := hR0.hst b _ (by rw [look_cons, if_pos rfl])
                  rw [hm] at q1; cases q1
                  exact ⟨_, _, cur2, hid, q2, q3, RWs.mono hm' _ _ q4, q5⟩)
                have hR2 := hR.congr (st' := (id, .cells (cs ++ new) e' size') :: (b, .dead) :: st) (by
                  intro j
                  simp only [look_cons]
                  by_cases e1 : id = j
                  · simp [e1]
                  · by_cases e2 : b = j <;> simp [e1, e2])
                exact ⟨_, _, _, _, .sl id 0 (n + k) none, _, hex (by rw [hs', hx']; exact hr), .inl rfl, hR2, hmm, ⟨g, c', 0, c', by simp, rfl, .inl rfl, hroom, hcm, fun _ e => (by cases e), fun _ _ => rfl⟩, hg⟩
              · have hlo : (arr.toList.take (n * size')).length = n * size' := by
                  rw [List.length_take, Array.length_toList]; omega
                have holds : ∀ (j : Nat) (u : Value), (arr.toList.take (n * size'))[j]? = some u → w.cell? ((⟨g, o', none⟩ : Addr).add j) = some u := by
                  intro j u hj
                  rw [List.getElem?_take] at hj
                  split at hj
                  · next hjn =>
                    have hn0 : n ≠ 0 := by rintro rfl; simp at hjn
                    rw [Addr.add_lit, hoo.resolve_right (by omega), Nat.zero_add]
                    refine cell?_at ?_
                    rw [cellsAt_of h3]
                    exact hj
                  · cases hj
                have hr := run_append_grow (P := P) w t o.type e' it v hu hit hitz ⟨g, o', none⟩ n c' (arr.toList.take (n * size')) (by rw [hits]; exact hlo) holds q k cp xs (by rw [hits]; exact hxl) hcell (by omega) (by unfold maxLen at hnk; omega)
                  (growslice_fits (by omega) (by rw [hitb]; exact hnb))
                have hge := grownCap_ge w (n + k) c' e'
                have hcm' := grownCap_le_maxLen w (n + k) c' e' hnk
                obtain ⟨hR, hmm⟩ := row_d (h.drew.kill hl) hU (id := id) (e := e') (size := size') (n := grownCap w (n + k) c' e') (cs := cs ++ new) (arr := (arr.toList.take (n * size')).toArray ++ xs.toArray ++ Builtin.zeroCells v.cells (grownCap w (n + k) c' e' - (n + k))) (by
                  rw [← hnl] at h4
                  have q1 := RWs_append h4 hxs
                  have e5 : (cs ++ new).length = (arr.toList.take (n * size') ++ xs).length := RWs_length q1
                  rw [e5]
                  have e6 : ((arr.toList.take (n * size')).toArray ++ xs.toArray ++ Builtin.zeroCells v.cells (grownCap w (n + k) c' e' - (n + k))).toList = (arr.toList.take (n * size') ++ xs) ++ (Builtin.zeroCells v.cells (grownCap w (n + k) c' e' - (n + k))).toList := by simp
                  rw [e6, List.take_left' rfl]
                  exact q1) (by
                  have h1 : (Builtin.zeroCells v.cells (grownCap w (n + k) c' e' - (n + k))).size = (grownCap w (n + k) c' e' - (n + k)) * size' := by rw [size_zeroCells, hvsz, hits]
                  rw [Array.size_append, Array.size_append, h1, List.size_toArray, List.size_toArray, hlo, hxl, ← Nat.add_mul, ← Nat.add_mul]
                  congr 1; omega)
                exact ⟨_, _, _, _, .sl id 0 (n + k) none, _, hex (by rw [hs', hx']; exact hr), .inl rfl, hR, hmm, ⟨w.heap.size, _, 0, grownCap w (n + k) c' e', by simp, rfl, .inl rfl, hge, hcm', fun _ e => (by cases e), fun _ _ => rfl⟩, hg⟩
          · cases hg
        · cases hg
    · cases hg

theorem copy_d (h : RelM O w0 M0 N0 U m sz tm st a w) {s x : Operand} {t u : TypeId} (ho : o.op = .call { callee := .builtin .copy, args := #[s, x], argTypes := #[t, u] }) (hs : RW m (ρ s) (a.eval s)) (hx : RW m (ρ x) (a.eval x))
    (hg : (copyW P t (ρ s) (ρ x)).go st K) : Did P o a w O w0 M0 N0 U m sz tm id K := by
  unfold copyW at hg
  split at hg
  · cases hg
  · next e he =>
    have hu := elem_u he
    split at hg
    · next b off n cap hsz hb =>
      rw [hb] at hs
      have hsz1 : (P.info? e).map (·.size) = some 1 := by
        cases hq : P.info? e with
        | none => simp [szOf, hq] at hsz
        | some it => simpa [szOf, hq] using hsz
      obtain ⟨g, C, o', c', hm, hs', hoo, hnc, hcm, _, _⟩ := hs
      obtain ⟨new, k, ad, cp, xs, hg, hx', hxs, hnone, hcell⟩ := src_d h hx hg
      have hex : ∀ {y : Value} {w' : World}, (Builtin.copy_ #[t, u] o.type #[a.eval s, a.eval x]).run P w = .ok y w' → (execOp a.eval o).run P w = .ok (.value y) w' := by
        intro y w' hr
        rw [run_builtin ho]
        simp [builtin, hr]
      split at hg
      · next hmin =>
        refine did_val h (c := .v (.int .i64 0)) (x := goInt 0) (hex ?_) rfl hg
        rw [hs', hx']
        exact run_copy_none w t u o.type e _ _ _ _ _ _ hu hsz1 hmin
      · next j hmin =>
        replace hg := getO hg
        obtain ⟨y, hl, hg⟩ := hg
        split at hg
        · next cs e' size' =>
          obtain ⟨⟨hfit, hnl⟩, hg⟩ := hg
          obtain ⟨g', C', arr, h1, h2, h3, h4, h5⟩ := h.hst b _ hl
          rw [hm] at h1; cases h1
          have hlen : cs.length ≤ arr.size := by have := cells_len h4; simpa using this
          have hjk : j + 1 ≤ k := by have : Nat.min k n ≤ k := Nat.min_le_left k n; rw [hmin] at this; exact this
          have hjn : j + 1 ≤ n := by have : Nat.min k n ≤ n := Nat.min_le_right k n; rw [hmin] at this; exact this
          obtain ⟨q, rfl⟩ : ∃ q, ad = some q := by
            cases ad with
            | none => have := hnone rfl; omega
            | some q => exact ⟨q, rfl⟩
          replace hcell := hcell q rfl
          have ho' : o' = off := hoo.resolve_right (by omega)
          subst ho'
          have hxl : xs.length = k := by rw [← RWs_length hxs]; exact hnl
          have hr := run_copy_row (P := P) w t u o.type e g o' n c' q k cp arr e' (xs.take (j + 1)) hu hsz1 h3 (by rw [List.length_take, hmin]; omega) (by
            intro i v hv
            rw [List.getElem?_take] at hv
            split at hv
            · exact hcell i v hv
            · cases hv) (by rw [List.length_take]; omega) (fun v hv => RWs_ones hxs v (List.mem_of_mem_take hv))
          have hl2 : (xs.take (j + 1)).length = j + 1 := by rw [List.length_take]; omega
          rw [hl2] at hr
          have hR := h.setRow (x1 := .cells (cs.take o' ++ new.take (j + 1) ++ cs.drop (o' + (j + 1))) e' size') (arr' := (arr.toList.take o' ++ xs.take (j + 1) ++ arr.toList.drop (o' + (j + 1))).toArray) hl (by simp) hm h2 h3
            (fun hh => ⟨_, _, _, hm, h2, hh, splice_RWs h4 (RWs_take hxs _) (by rw [List.length_take]; omega) hfit, fun hz => by
              rw [← h5 hz]
              simp only [List.size_toArray, List.length_append, List.length_take, List.length_drop, Array.length_toList]
              omega⟩)
          exact ⟨_, _, _, m, .v (.int .i64 ((j + 1 : Nat) : Int)), _, hex (by rw [hs', hx']; exact hr), .inl rfl, hR.weakU fun _ e => e.1, fun _ _ e => e, rfl, hg⟩
        · cases hg
    · cases hg

theorem bound_d {q : Option Operand} {d i : Nat} (hρ : ∀ y, q = some y → RW m (ρ y) (a.eval y)) (hq : boundW ρ q d = some i) : (q = none ∧ i = d) ∨ ∃ y k, q = some y ∧ a.eval y = .int k (i : Int) := by
  cases q with
  | none => simp [boundW] at hq; exact .inl ⟨rfl, hq.symm⟩
  | some y =>
    obtain ⟨k, hk⟩ := natW_val hq (hρ y rfl)
    exact .inr ⟨y, k, rfl, hk⟩

theorem slice_d (h : RelM O w0 M0 N0 U m sz tm st a w) {t : TypeId} {x : Operand} {lo hi mx : Option Operand} (ho : o.op = .slice t x lo hi mx) (hx : RW m (ρ x) (a.eval x))
    (hlo : ∀ y, lo = some y → RW m (ρ y) (a.eval y)) (hhi : ∀ y, hi = some y → RW m (ρ y) (a.eval y)) (hmx : ∀ y, mx = some y → RW m (ρ y) (a.eval y)) (hg : (sliceW P ρ t x lo hi mx).go st K) : Did P o a w O w0 M0 N0 U m sz tm id K := by
  unfold sliceW at hg
  split at hg
  · next b off n cap hb =>
    rw [hb] at hx
    obtain ⟨g, C, o', c, hm, hx', hoo, hnc, hcm, hce, hcC⟩ := hx
    split at hg
    · next e he =>
      have hu := elem_u he
      split at hg
      · next size i j hs hi' hj' =>
        have fin : ∀ (M : Nat) (cap' : Option Nat), i ≤ j → j ≤ M → M ≤ c → (execOp a.eval o).run P w = .ok (.value (.slice (if M = i then some ⟨g, o', none⟩ else (some ⟨g, o', none⟩ : Option Addr).map (·.add (i * size))) (j - i) (M - i))) w →
            (∀ k, cap' = some k → M - i = k) → (cap' = none → off + i * size = 0 → M - i = C) → K (.sl b (off + i * size) (j - i) cap') st → Did P o a w O w0 M0 N0 U m sz tm id K := by
          intro M cap' hij hjM hMc hrun h1 h2 hk
          refine did_val h hrun (c := .sl b (off + i * size) (j - i) cap') ?_ hk
          by_cases hMi : M = i
          · refine ⟨g, C, o', M - i, hm, by rw [if_pos hMi], .inr (by omega), by omega, by omega, h1, h2⟩
          · refine ⟨g, C, o' + i * size, M - i, hm, by rw [if_neg hMi]; simp [Addr.add_lit], ?_, by omega, by omega, h1, h2⟩
            rcases hoo with rfl | h0
            · exact .inl rfl
            · omega
        split at hg
        · -- no third bound, cap unknown
          obtain ⟨⟨hpos, hij, hjn⟩, hk⟩ := hg
          refine fin c none hij (by omega) (Nat.le_refl _) ?_ (fun _ e => by cases e) (fun _ hz => ?_) hk
          · rcases bound_d hlo hi' with ⟨rfl, rfl⟩ | ⟨y, k1, rfl, hy⟩
            · rcases bound_d hhi hj' with ⟨rfl, rfl⟩ | ⟨z, k2, rfl, hz⟩
              · simp [execOp, ho, hx', Instr.sliceAt, Instr.slice, run_underlying hu, Instr.sliceBounds, sz_run hs]
              · have hjc : j ≤ c := by omega
                simp [execOp, ho, hx', Instr.sliceAt, Instr.slice, run_underlying hu, Instr.sliceBounds, Instr.sliceBound, asIntOf, sz_run hs, hz, hjc]
            · rcases bound_d hhi hj' with ⟨rfl, rfl⟩ | ⟨z, k2, rfl, hz⟩
              · simp [execOp, ho, hx', Instr.sliceAt, Instr.slice, run_underlying hu, Instr.sliceBounds, Instr.sliceBound, asIntOf, sz_run hs, hy, hij]
              · have hjc : j ≤ c := by omega
                simp [execOp, ho, hx', Instr.sliceAt, Instr.slice, run_underlying hu, Instr.sliceBounds, Instr.sliceBound, asIntOf, sz_run hs, hy, hz, hjc, hij]
          · have h0 : off = 0 := by omega
            have hi0 : i * size = 0 := by omega
            have hi0 : i = 0 := by rcases Nat.mul_eq_zero.1 hi0 with e | e <;> omega
            rw [hi0, Nat.sub_zero]; exact hcC rfl h0
        · next c0 =>
          obtain rfl := hce c0 rfl
          obtain ⟨⟨hij, hjc⟩, hk⟩ := hg
          refine fin c (some (c - i)) hij hjc (Nat.le_refl _) ?_ (fun _ e => by cases e; rfl) (fun e => by cases e) hk
          rcases bound_d hlo hi' with ⟨rfl, rfl⟩ | ⟨y, k1, rfl, hy⟩
          · rcases bound_d hhi hj' with ⟨rfl, rfl⟩ | ⟨z, k2, rfl, hz⟩
            · simp [execOp, ho, hx', Instr.sliceAt, Instr.slice, run_underlying hu, Instr.sliceBounds, sz_run hs]
            · simp [execOp, ho, hx', Instr.sliceAt, Instr.slice, run_underlying hu, Instr.sliceBounds, Instr.sliceBound, asIntOf, sz_run hs, hz, hjc]
          · rcases bound_d hhi hj' with ⟨rfl, rfl⟩ | ⟨z, k2, rfl, hz⟩
            · simp [execOp, ho, hx', Instr.sliceAt, Instr.slice, run_underlying hu, Instr.sliceBounds, Instr.sliceBound, asIntOf, sz_run hs, hy, hij]
            · simp [execOp, ho, hx', Instr.sliceAt, Instr.slice, run_underlying hu, Instr.sliceBounds, Instr.sliceBound, asIntOf, sz_run hs, hy, hz, hjc, hij]
        · next k0 =>
          split at hg
          · next z kk hkk =>
            obtain ⟨k3, hk3⟩ := natW_val hkk (hmx _ rfl)
            obtain ⟨⟨hij, hjk, hkn⟩, hk⟩ := hg
            refine fin kk (some (kk - i)) hij hjk (by omega) ?_ (fun _ e => by cases e; rfl) (fun e => by cases e) hk
            have hkc : kk ≤ c := by omega
            rcases bound_d hhi hj' with ⟨h0, _⟩ | ⟨z', k2, hz0, hz⟩
            · cases h0
            · cases hz0
              rcases bound_d hlo hi' with ⟨rfl, rfl⟩ | ⟨y, k1, rfl, hy⟩
              · simp [execOp, ho, hx', Instr.sliceAt, Instr.slice, run_underlying hu, Instr.sliceBounds, Instr.sliceBound, asIntOf, sz_run hs, hz, hk3, hjk, hkc]
              · simp [execOp, ho, hx', Instr.sliceAt, Instr.slice, run_underlying hu, Instr.sliceBounds, Instr.sliceBound, asIntOf, sz_run hs, hy, hz, hk3, hjk, hkc, hij]
          · cases hg
        · next k0 c0 =>
          obtain rfl := hce c0 rfl
          split at hg
          · next z kk hkk =>
            obtain ⟨k3, hk3⟩ := natW_val hkk (hmx _ rfl)
            obtain ⟨⟨hij, hjk, hkn⟩, hk⟩ := hg
            refine fin kk (some (kk - i)) hij hjk hkn ?_ (fun _ e => by cases e; rfl) (fun e => by cases e) hk
            rcases bound_d hhi hj' with ⟨h0, _⟩ | ⟨z', k2, hz0, hz⟩
            · cases h0
            · cases hz0
              rcases bound_d hlo hi' with ⟨rfl, rfl⟩ | ⟨y, k1, rfl, hy⟩
              · simp [execOp, ho, hx', Instr.sliceAt, Instr.slice, run_underlying hu, Instr.sliceBounds, Instr.sliceBound, asIntOf, sz_run hs, hz, hk3, hjk, hkn]
              · simp [execOp, ho, hx', Instr.sliceAt, Instr.slice, run_underlying hu, Instr.sliceBounds, Instr.sliceBound, asIntOf, sz_run hs, hy, hz, hk3, hjk, hkn, hij]
          · cases hg
      · cases hg
    · cases hg
  · cases hg
end
end Go.Ev.Mi
/- The mirror machine: the operations are done as the model does them: maps; all of them. -/
set_option linter.unusedVariables false
set_option linter.unusedSimpArgs false
namespace Go.Ev.Mi
open Go.RowKit

section
variable {P : Program}
variable {O : Nat → Prop} {w0 : World} {M0 : MM} {N0 : Nat} {U : Nat → Prop} {m : MM} {sz : Nat} {tm : TW} {st : SB} {a : Act} {w : World} {id : Nat} {K : W → SB → Prop} {o : Oper} {ρ : Operand → W}

/-- What is found, told by its place. -/
def FindR (es : List MapEntry) (i : Nat) : Option Nat → Option (Nat × Value) → Prop
  | none, R => R = none
  | some j, R => ∃ e, i ≤ j ∧ es[j - i]? = some e ∧ R = some (j, e.val)

theorem FindR.cons {e : MapEntry} {es : List MapEntry} {i : Nat} : ∀ {r : Option Nat} {R : Option (Nat × Value)}, FindR es (i + 1) r R → FindR (e :: es) i r R
  | none, R, h => h
  | some j, R, ⟨x, h1, h2, h3⟩ => ⟨x, by omega, by rw [show j - i = j - (i + 1) + 1 by omega, List.getElem?_cons_succ]; exact h2, h3⟩

theorem findNow_d {kind : TypeDesc} {k : Value} : ∀ (es : List MapEntry) (i : Nat), match findNowK kind k (es.map (·.key)) i with
    | some r => ∃ R, Instr.findNow kind k es i = some R ∧ FindR es i r R
    | none => Instr.findNow kind k es i = none
  | [], i => ⟨none, rfl, rfl⟩
  | e :: es, i => by
    have ih := findNow_d (kind := kind) (k := k) es (i + 1)
    simp only [List.map_cons, findNowK, Instr.findNow]
    cases hs : Instr.sameNow kind k e.key with
    | none => simp only
    | some b =>
      cases b with
      | true => exact ⟨_, rfl, e, Nat.le_refl _, by simp, rfl⟩
      | false =>
        simp only
        split at ih
        · next r hr =>
          obtain ⟨R, h1, h2⟩ := ih
          exact ⟨R, h1, h2.cons⟩
        · next hr => exact ih

theorem findAsk_d {kt : TypeId} {k : Value} (w : World) : ∀ (es : List MapEntry) (i : Nat) (r : Option Nat), findAskK P kt k (es.map (·.key)) i = some r → ∃ R, (Instr.findAsking kt k es i).run P w = .ok R w ∧ FindR es i r R
  | [], i, r, h => by cases h; exact ⟨none, rfl, rfl⟩
  | e :: es, i, r, h => by
    simp only [List.map_cons, findAskK] at h
    split at h
    · next hp => cases h; exact ⟨_, by simp [Instr.findAsking, prS_run _ _ w hp], e, Nat.le_refl _, by simp, rfl⟩
    · next hp =>
      obtain ⟨R, h1, h2⟩ := findAsk_d w es (i + 1) r h
      exact ⟨R, by simp [Instr.findAsking, prS_run _ _ w hp, h1], h2.cons⟩
    · cases h

theorem find_d {kt : TypeId} {k : Value} (w : World) (es : List MapEntry) {r : Option Nat} (h : findK P kt k (es.map (·.key)) = some r) : ∃ R, (Instr.findKey kt k es).run P w = .ok R w ∧ FindR es 0 r R := by
  unfold findK at h
  split at h
  · cases h
  · next d hu =>
    have hn := findNow_d (kind := d) (k := k) es 0
    split at h
    · next r' hr =>
      cases h
      rw [hr] at hn
      obtain ⟨R, h1, h2⟩ := hn
      exact ⟨R, by simp [Instr.findKey, run_underlying hu, h1], h2⟩
    · next hr =>
      rw [hr] at hn
      obtain ⟨R, h1, h2⟩ := findAsk_d w es 0 r h
      exact ⟨R, by simp [Instr.findKey, run_underlying hu, hn, h1], h2⟩

theorem okKey_run {emp : Bool} {kt : TypeId} {k : Value} (w : World) (h : okKey P emp kt k = true) : (Instr.checkKey emp 10000 kt k).run P w = .ok () w := by
  obtain ⟨u, hu⟩ := Option.isSome_iff_exists.1 h
  exact prS_run _ _ w hu

theorem run_getObj_any {g : Nat} {ob : Obj} (hb : w.heap[g]? = some ob) (hc : ∀ c e f, ob ≠ .cells c e f) : (getObj g).run P w = .ok ob w := by
  cases ob with
  | cells c e f => exact absurd rfl (hc _ _ _)
  | _ => simp [getObj, Sem.run, hb]

theorem run_setObj_any {g : Nat} {ob : Obj} (hb : w.heap[g]? = some ob) (hc : ∀ c e f, ob ≠ .cells c e f) (x : Obj) : (setObj g x).run P w = .ok () (w.putObj g x) := by
  cases ob with
  | cells c e f => exact absurd rfl (hc _ _ _)
  | _ => simp [setObj, Sem.run, hb, World.putObj]

theorem map_keys {es : List (Value × W × Nat)} {arr : Array MapEntry} (hl : es.length = arr.size) (he : ∀ (i : Nat) (e : Value × W × Nat) (x : MapEntry), es[i]? = some e → arr[i]? = some x → RE m e x) : arr.toList.map (·.key) = es.map (·.1) := by
  apply List.ext_getElem?
  intro i
  rw [List.getElem?_map, List.getElem?_map]
  by_cases hi : i < es.length
  · have h1 : es[i]? = some es[i] := List.getElem?_eq_getElem hi
    have h2 : arr[i]? = some (arr[i]'(by omega)) := Array.getElem?_eq_getElem (by omega)
    rw [h1, Array.getElem?_toList, h2]
    simp [(he i _ _ h1 h2).1]
  · rw [List.getElem?_eq_none (by simp; omega), List.getElem?_eq_none (by omega)]
    rfl

theorem lookup_d (h : RelM O w0 M0 N0 U m sz tm st a w) {t : TypeId} {x i : Operand} {ok : Bool} (ho : o.op = .lookup t x i ok) (hx : RW m (ρ x) (a.eval x)) (hi : RW m (ρ i) (a.eval i)) (hg : (lookupW P ρ t x i ok).go st K) : Did P o a w O w0 M0 N0 U m sz tm id K := by
  unfold lookupW at hg
  split at hg
  · next kt et k ht hk =>
    have hu := map_u ht
    have hk' := pl_RW _ _ _ hk hi
    split at hg
    · next b hb =>
      rw [hb] at hx
      obtain ⟨g, C, hm, hx'⟩ := hx
      replace hg := getO hg
      obtain ⟨y, hl, hg⟩ := hg
      split at hg
      · next es clock =>
        obtain ⟨g', C', arr, h1, h2, h3, h4, h5⟩ := h.hst b _ hl
        rw [hm] at h1; cases h1
        have hemp : arr.isEmpty = es.isEmpty := by
          cases es with
          | nil => simp only [List.isEmpty_nil]; rw [Array.isEmpty_iff_size_eq_zero]; exact h4.symm
          | cons e es => simp only [List.isEmpty_cons]; rw [Bool.eq_false_iff]; intro hc; rw [Array.isEmpty_iff_size_eq_zero] at hc; simp at h4; omega
        split at hg
        · next hok =>
          have hok' := okKey_run w hok
          split at hg
          · next zz j hf =>
            rw [← map_keys h4 h5] at hf
            obtain ⟨R, hr, e, _, he, hR⟩ := find_d w arr.toList hf
            subst hR
            split at hg
            · next e' he' =>
              have he2 : arr[j]? = some e := by simpa using he
              obtain ⟨q1, q2, q3⟩ := h5 j e' e he' he2
              cases ok with
              | true =>
                refine did_val h (c := .tup [e'.2.1, .v (.bool true)]) (x := .tuple #[e.val, .bool true]) ?_ ⟨_, rfl, ⟨q2, fun e => (by cases e)⟩, ⟨rfl, fun e => (by cases e)⟩, trivial⟩ hg
                simp [execOp, ho, hx', hk', Instr.lookup, run_underlying hu, run_getObj_any h3 (fun _ _ _ e => by cases e), hemp, hok', hr]
              | false =>
                refine did_val h (x := e.val) ?_ q2 hg
                simp [execOp, ho, hx', hk', Instr.lookup, run_underlying hu, run_getObj_any h3 (fun _ _ _ e => by cases e), hemp, hok', hr]
            · cases hg
          · next z hf hz =>
            rw [← map_keys h4 h5] at hf
            obtain ⟨R, hr, hR⟩ := find_d w arr.toList hf
            have hR : R = none := hR
            subst hR
            have hzr := zeroV_run w hz
            cases ok with
            | true =>
              refine did_val h (c := .tup [toW0 z, .v (.bool false)]) (x := .tuple #[z, .bool false]) ?_ ⟨_, rfl, ⟨RW_toW0 z, fun e => (by cases e)⟩, ⟨rfl, fun e => (by cases e)⟩, trivial⟩ hg
              simp [execOp, ho, hx', hk', Instr.lookup, run_underlying hu, run_getObj_any h3 (fun _ _ _ e => by cases e), hemp, hok', hr, hzr]
            | false =>
              refine did_val h (x := z) ?_ (RW_toW0 z) hg
              simp [execOp, ho, hx', hk', Instr.lookup, run_underlying hu, run_getObj_any h3 (fun _ _ _ e => by cases e), hemp, hok', hr, hzr]
          · cases hg
        · cases hg
      · cases hg
    · next hb =>
      rw [hb] at hx
      have hx' : a.eval x = .map none := hx
      split at hg
      · next z hok hff hz =>
        have hok' := okKey_run w hok
        have hzr := zeroV_run w hz
        obtain ⟨R, hf, hR⟩ := find_d w ([] : List MapEntry) (r := none) hff
        have hR : R = none := hR
        subst hR
        cases ok with
        | true =>
          refine did_val h (c := .tup [toW0 z, .v (.bool false)]) (x := .tuple #[z, .bool false]) ?_ ⟨_, rfl, ⟨RW_toW0 z, fun e => (by cases e)⟩, ⟨rfl, fun e => (by cases e)⟩, trivial⟩ hg
          simp [execOp, ho, hx', hk', Instr.lookup, run_underlying hu, hok', hf, hzr]
        | false =>
          refine did_val h (x := z) ?_ (RW_toW0 z) hg
          simp [execOp, ho, hx', hk', Instr.lookup, run_underlying hu, hok', hf, hzr]
      · cases hg
    · cases hg
  · cases hg

theorem update_d (h : RelM O w0 M0 N0 U m sz tm st a w) {t : TypeId} {x i v : Operand} (ho : o.op = .mapUpdate t x i v ∨ o.op = .insert t x i v) (hx : RW m (ρ x) (a.eval x)) (hi : RW m (ρ i) (a.eval i)) (hv : RW m (ρ v) (a.eval v)) (hg : (updateW P ρ t x i v).go st K) : Did P o a w O w0 M0 N0 U m sz tm id K := by
  have hex : ∀ {w' : World}, (Instr.mapUpdate t (a.eval x) (a.eval i) (a.eval v)).run P w = .ok () w' → (execOp a.eval o).run P w = .ok .skip w' := by
    intro w' hr
    rcases ho with ho | ho <;> simp [execOp, ho, hr]
  unfold updateW at hg
  split at hg
  · next kt et k b ht hk hb =>
    have hu := map_u ht
    have hk' := pl_RW _ _ _ hk hi
    rw [hb] at hx
    obtain ⟨g, C, hm, hx'⟩ := hx
    replace hg := getO hg
    obtain ⟨y, hl, hg⟩ := hg
    split at hg
    · next es clock =>
      obtain ⟨g', C', arr, h1, h2, h3, h4, h5⟩ := h.hst b _ hl
      rw [hm] at h1; cases h1
      have hnc : ∀ c e f, (Obj.map arr clock) ≠ .cells c e f := fun _ _ _ e => by cases e
      split at hg
      · next hok =>
        have hok' := okKey_run w hok
        split at hg
        · next j hf =>
          rw [← map_keys h4 h5] at hf
          obtain ⟨R, hr, e, _, he, hR⟩ := find_d w arr.toList hf
          subst hR
          split at hg
          · next e' he' =>
            have he2 : arr[j]? = some e := by simpa using he
            obtain ⟨q1, q2, q3⟩ := h5 j e' e he' he2
            have hj : j < es.length := (List.getElem?_eq_some_iff.1 he').1
            split at hg
            · next hsb =>
              have hkeep : (Instr.keyThatStays e.key k).run P w = .ok k w := by
                rw [q1]
                simp [Instr.keyThatStays, hsb]
              have hR := h.putObj (x1 := .map (es.set j (k, ρ v, e'.2.2)) clock) hl (by simp) hm h2 (o := .map (arr.modify j fun e => { e with key := k, val := a.eval v }) clock) (fun hh => ⟨_, _, _, hm, h2, hh, by simp [h4], fun i e1 x1 he1 hx1 => by
                rw [List.getElem?_set] at he1
                rw [Array.getElem?_modify] at hx1
                by_cases hij : j = i
                · subst hij
                  rw [if_pos rfl, if_pos hj] at he1
                  rw [if_pos rfl, he2] at hx1
                  cases he1
                  cases hx1
                  exact ⟨rfl, hv, q3⟩
                · rw [if_neg hij] at he1
                  rw [if_neg hij] at hx1
                  exact h5 i e1 x1 he1 hx1⟩)
              refine ⟨.skip, undef, _, m, .top, _, hex ?_, .inr ⟨rfl, rfl⟩, hR.weakU fun _ e => e.1, fun _ _ e => e, trivial, hg⟩
              rw [hx', hk']
              simp [Instr.mapUpdate, run_underlying hu, run_getObj_any h3 hnc, hok', hr, he2, hkeep, run_setObj_any h3 hnc]
            · cases hg
          · cases hg
        · next hf =>
          rw [← map_keys h4 h5] at hf
          obtain ⟨R, hr, hR⟩ := find_d w arr.toList hf
          have hR : R = none := hR
          subst hR
          have hR := h.putObj (x1 := .map (es ++ [(k, ρ v, clock)]) (clock + 1)) hl (by simp) hm h2 (o := .map (arr.push { key := k, val := a.eval v, born := clock }) (clock + 1)) (fun hh => ⟨_, _, _, hm, h2, hh, by simp [h4], fun i e1 x1 he1 hx1 => by
            rw [Array.getElem?_push] at hx1
            split at hx1
            · next hi2 =>
              subst hi2
              rw [List.getElem?_append_right (by omega), h4, Nat.sub_self] at he1
              cases he1; cases hx1
              exact ⟨rfl, hv, rfl⟩
            · next hi2 =>
              have hlt : i < arr.size := (Array.getElem?_eq_some_iff.1 hx1).1
              rw [List.getElem?_append_left (by omega)] at he1
              exact h5 i e1 x1 he1 hx1⟩)
          refine ⟨.skip, undef, _, m, .top, _, hex ?_, .inr ⟨rfl, rfl⟩, hR.weakU fun _ e => e.1, fun _ _ e => e, trivial, hg⟩
          rw [hx', hk']
          simp [Instr.mapUpdate, run_underlying hu, run_getObj_any h3 hnc, hok', hr, run_setObj_any h3 hnc]
        · cases hg
      · cases hg
    · cases hg
  · cases hg

theorem intBin_d {op : BinOp} {k : IntKind} {x y : Int} (hg : (intBinW op k x y).go st K) (t : TypeId) (w : World) : ∃ v, (binOp op t (.int k x) (.int k y)).run P w = .ok v w ∧ K (.v v) st := by
  cases op <;> simp only [intBinW] at hg <;> first
    | (cases hg; done)
    | (obtain ⟨h0, hg⟩ := hg; refine ⟨_, ?_, hg⟩; simp [binOp, Op.intDiv, h0]; done)
    | (refine ⟨_, ?_, hg⟩; simp [binOp, Op.intArith, Op.intCmp]; done)

theorem bin_d (h : RelM O w0 M0 N0 U m sz tm st a w) {op : BinOp} {t u : TypeId} {x y : Operand} (ho : o.op = .binOp op t x y u) (hρ : ∀ z ∈ o.op.operands, RW m (ρ z) (a.eval z)) (hg : (binW P ρ o op t x y).go st K) : Did P o a w O w0 M0 N0 U m sz tm id K := by
  have hx := hρ x (by simp [ho, Op.operands])
  have hy := hρ y (by simp [ho, Op.operands])
  have hp : (pureW P ρ o).go st K → Did P o a w O w0 M0 N0 U m sz tm id K := pure_d h (fun cs b e => by rw [ho] at e; cases e) hρ
  unfold binW at hg
  split at hg
  · next k i j k2 hb hc =>
    rw [hb] at hx; rw [hc] at hy
    have hx' : a.eval x = .int k i := hx
    have hy' : a.eval y = .int j k2 := hy
    split at hg
    · obtain ⟨rfl, hg⟩ := hg
      obtain ⟨v, hr, hk⟩ := intBin_d (P := P) hg t w
      refine did_val h (c := .v v) (x := v) ?_ rfl hk
      simp [execOp, ho, hx', hy', eqGuard_int, hr]
    · exact hp hg
  · next b off n cap hb hc =>
    rw [hb] at hx; rw [hc] at hy
    obtain ⟨g, C, o', c', hm, hx', _⟩ := hx
    have hy' : a.eval y = .slice none 0 0 := hy
    split at hg
    · next e hu =>
      cases op <;> simp only [nilCmp] at hg <;> first | (cases hg; done) | skip
      · refine did_val h (c := .v (.bool false)) (x := .bool false) ?_ rfl hg
        simp [execOp, ho, hx', hy', eqGuard_at_slice, eql_slice_nil w t e _ _ _ hu]
      · refine did_val h (c := .v (.bool true)) (x := .bool true) ?_ rfl hg
        simp [execOp, ho, hx', hy', eqGuard_at_slice, run_neq_slice_nil w t e _ _ _ hu]
    · cases hg
  · next b off hb hc =>
    rw [hb] at hx; rw [hc] at hy
    obtain ⟨g, C, hm, hx'⟩ := hx
    have hy' : a.eval y = .pointer none := hy
    split at hg
    · next e hu =>
      have hpt : P.underlying t = some (.pointer (P.pointee t)) := by
        rw [hu]; simp [Program.pointee, hu]
      cases op <;> simp only [nilCmp] at hg <;> first | (cases hg; done) | skip
      · refine did_val h (c := .v (.bool false)) (x := .bool false) ?_ rfl hg
        simp [execOp, ho, hx', hy', eqGuard, run_eql_pointer_nil w t _ hpt]
      · refine did_val h (c := .v (.bool true)) (x := .bool true) ?_ rfl hg
        simp [execOp, ho, hx', hy', eqGuard, run_neq_pointer_nil w t _ hpt]
    · cases hg
  · exact hp hg

theorem caps_d {caps : List Operand} (hc : ∀ x ∈ caps, RW m (ρ x) (a.eval x)) : RWs m false (caps.map ρ) (caps.map a.eval) := by
  rw [RWs_iff]
  refine ⟨by simp, fun i c y hc' hy => ?_⟩
  rw [List.getElem?_map] at hc' hy
  cases hx : caps[i]? with
  | none => simp [hx] at hc'
  | some x =>
    simp only [hx, Option.map_some, Option.some.injEq] at hc' hy
    subst hc' hy
    exact ⟨hc x (List.mem_of_getElem? hx), fun e => by cases e⟩

/-- AN OPERATION IS DONE AS THE MODEL DOES IT. -/
theorem op_d (h : RelM O w0 M0 N0 U m sz tm st a w) (hU : U id) (hρ : ∀ z ∈ o.op.operands, RW m (ρ z) (a.eval z)) (hg : (opM P id ρ o).go st K) : Did P o a w O w0 M0 N0 U m sz tm id K := by
  have hp : (∀ cs b, o.op ≠ .select cs b) → (pureW P ρ o).go st K → Did P o a w O w0 M0 N0 U m sz tm id K := fun hs => pure_d h hs hρ
  cases ho : o.op with
  | move x =>
    simp only [opM, ho] at hg
    exact did_val h (x := a.eval x) (by simp [execOp, ho]) (hρ x (by simp [ho, Op.operands])) hg
  | assign x =>
    simp only [opM, ho] at hg
    exact did_val h (x := a.eval x) (by simp [execOp, ho]) (hρ x (by simp [ho, Op.operands])) hg
  | pick c x y =>
    have hc := hρ c (by simp [ho, Op.operands])
    simp only [opM, ho] at hg
    split at hg
    · next hb =>
      rw [hb] at hc
      have hc' : a.eval c = .bool true := hc
      exact did_val h (x := a.eval x) (by simp [execOp, ho, hc', asBool]) (hρ x (by simp [ho, Op.operands])) hg
    · next hb =>
      rw [hb] at hc
      have hc' : a.eval c = .bool false := hc
      exact did_val h (x := a.eval y) (by simp [execOp, ho, hc', asBool]) (hρ y (by simp [ho, Op.operands])) hg
    · cases hg
  | alloc t => exact alloc_d h hU ho hg
  | box t x => exact box_d h hU ho (hρ x (by simp [ho, Op.operands])) hg
  | build t parts => exact build_d h ho (fun p hp => hρ p.2 (by simp only [ho, Op.operands]; simp; exact ⟨p.1, by simpa using hp⟩)) hg
  | buildSlice t n parts => exact buildSlice_d h hU ho (fun p hp => hρ p.2 (by simp only [ho, Op.operands]; simp; exact ⟨p.1, by simpa using hp⟩)) hg
  | load t x => exact load_d h ho (hρ x (by simp [ho, Op.operands])) hg
  | store t p x => exact store_d h ho (hρ p (by simp [ho, Op.operands])) (hρ x (by simp [ho, Op.operands])) hg
  | nilCheck x =>
    have hx := hρ x (by simp [ho, Op.operands])
    simp only [opM, ho] at hg
    split at hg
    · next b off hb =>
      rw [hb] at hx
      have hx0 := hx
      obtain ⟨g, C, hm, hx'⟩ := hx
      exact did_val h (x := a.eval x) (by simp [execOp, ho, hx']) hx0 hg
    · next g caps hb =>
      rw [hb] at hx
      have hx0 := hx
      obtain ⟨arr, hx', _⟩ := hx
      exact did_val h (x := a.eval x) (by simp [execOp, ho, hx']) hx0 hg
    · next t y hb =>
      rw [hb] at hx
      have hx0 := hx
      obtain ⟨z, hx', _⟩ := hx
      exact did_val h (x := a.eval x) (by simp [execOp, ho, hx']) hx0 hg
    · cases hg
  | binOp op t x y u => exact bin_d h ho hρ (by simpa only [opM, ho] using hg)
  | makeFunc fn first caps =>
    simp only [opM, ho] at hg
    split at hg
    · next g hf =>
      have hf' : first = #[] := by cases first; simp_all
      subst hf'
      refine did_val h (c := .fn g (caps.toList.map ρ)) (x := .func (.func g) #[] (caps.map a.eval)) (by simp [execOp, ho, Instr.makeFunc]) ⟨_, rfl, ?_⟩ hg
      rw [Array.toList_map]
      exact caps_d fun x hx => hρ x (by simp [ho, Op.operands]; simpa using hx)
    · cases hg
  | makeInterface t x =>
    simp only [opM, ho] at hg
    split at hg
    · cases hg
    · cases hg
    · next d hu hni hd =>
      refine did_val h (c := .ifc t (ρ x)) (x := .iface t (a.eval x)) ?_ ⟨_, rfl, hρ x (by simp [ho, Op.operands])⟩ hg
      have : (Instr.makeInterface t (a.eval x)).run P w = .ok (.iface t (a.eval x)) w := by
        simp only [Instr.makeInterface, Sem.run_bind, run_underlying hd, Result.andThen_ok]
        cases d <;> first | rfl | exact absurd hd (hu _)
      simp [execOp, ho, this]
  | typeAssert x xt asserted ok =>
    have hx := hρ x (by simp [ho, Op.operands])
    simp only [opM, ho] at hg
    split at hg
    · next t y hb =>
      rw [hb] at hx
      obtain ⟨z, hx', hz⟩ := hx
      split at hg
      · cases hg
      · cases hg
      · next d hu hni hd =>
        split at hg
        · next hte =>
          have hte := Nat.eq_of_beq_eq_true hte
          subst hte
          cases ok with
          | true =>
            refine did_val h (c := .tup [y, .v (.bool true)]) (x := .tuple #[z, .bool true]) ?_ ⟨_, rfl, ⟨hz, fun e => (by cases e)⟩, ⟨rfl, fun e => (by cases e)⟩, trivial⟩ hg
            have : (Instr.typeAssert (.iface t z) xt t true).run P w = .ok (.tuple #[z, .bool true]) w := by
              simp only [Instr.typeAssert, Sem.run_bind, run_underlying hd, Result.andThen_ok]
              cases d <;> first | (simp; done) | exact absurd hd (hu _)
            simp [execOp, ho, hx', this]
          | false =>
            refine did_val h (c := y) (x := z) ?_ hz hg
            have : (Instr.typeAssert (.iface t z) xt t false).run P w = .ok z w := by
              simp only [Instr.typeAssert, Sem.run_bind, run_underlying hd, Result.andThen_ok]
              cases d <;> first | (simp; done) | exact absurd hd (hu _)
            simp [execOp, ho, hx', this]
        · next hte =>
          have hte : t ≠ asserted := by rintro rfl; simp at hte
          split at hg
          · next zz hzv =>
            have hzr := zeroV_run w hzv
            refine did_val h (c := .tup [toW0 zz, .v (.bool false)]) (x := .tuple #[zz, .bool false]) ?_ ⟨_, rfl, ⟨RW_toW0 zz, fun e => (by cases e)⟩, ⟨rfl, fun e => (by cases e)⟩, trivial⟩ hg
            have : (Instr.typeAssert (.iface t z) xt asserted true).run P w = .ok (.tuple #[zz, .bool false]) w := by
              simp only [Instr.typeAssert, Sem.run_bind, run_underlying hd, Result.andThen_ok]
              cases d <;> first | (simp [hte, hzr]; done) | exact absurd hd (hu _)
            simp [execOp, ho, hx', this]
          · cases hg
    · exact hp (fun cs b e => by rw [ho] at e; cases e) hg
  | makeMap t r =>
    have fin : (execOp a.eval o).run P w = .ok (.value (.map (some w.heap.size))) (w.alloc (.map #[] 0)) → K (.mp id) ((id, .map [] 0) :: st) → Did P o a w O w0 M0 N0 U m sz tm id K := by
      intro hr hk
      obtain ⟨hR, hm⟩ := h.new (id := id) 0 hU (o := .map #[] 0) (x := .map [] 0) (by simp) (by
        intro m' hm hid hh
        exact ⟨_, _, #[], hid, h.own_new, hh, rfl, fun i e x he _ => by simp at he⟩)
      exact ⟨_, _, _, _, .mp id, _, hr, .inl rfl, hR, hm, ⟨w.heap.size, 0, by simp, rfl⟩, hk⟩
    simp only [opM, ho] at hg
    split at hg
    · exact fin (by simp [execOp, ho, Instr.makeMap]) hg
    · next r =>
      split at hg
      · next q kt hq ht =>
        obtain ⟨k, n⟩ := q
        have hr := hρ r (by simp [ho, Op.operands])
        have hr' : a.eval r = .int k n := by
          unfold intW at hq
          split at hq
          · next k' n' hb => cases hq; rw [hb] at hr; exact hr
          · cases hq
        exact fin (by simp [execOp, ho, Instr.makeMap, run_underlying (map_u ht), hr', asInt, asIntOf]) hg
      · cases hg
  | lookup t x i ok => exact lookup_d h ho (hρ x (by simp [ho, Op.operands])) (hρ i (by simp [ho, Op.operands])) (by simpa only [opM, ho] using hg)
  | mapUpdate t x i v => exact update_d h (.inl ho) (hρ x (by simp [ho, Op.operands])) (hρ i (by simp [ho, Op.operands])) (hρ v (by simp [ho, Op.operands])) (by simpa only [opM, ho] using hg)
  | insert t x i v => exact update_d h (.inr ho) (hρ x (by simp [ho, Op.operands])) (hρ i (by simp [ho, Op.operands])) (hρ v (by simp [ho, Op.operands])) (by simpa only [opM, ho] using hg)
  | slice t x lo hi mx =>
    simp only [opM, ho] at hg
    split at hg
    · exact hp (fun cs b e => by rw [ho] at e; cases e) hg
    · exact slice_d h ho (hρ x (by simp [ho, Op.operands])) (fun y hy => hρ y (by simp [ho, Op.operands, hy])) (fun y hy => hρ y (by simp [ho, Op.operands, hy])) (fun y hy => hρ y (by simp [ho, Op.operands, hy])) hg
  | fieldAddr s x f =>
    have hx := hρ x (by simp [ho, Op.operands])
    simp only [opM, ho] at hg
    split at hg
    · next b off i t hb hf =>
      split at hg
      · next n hs =>
        rw [hb] at hx
        obtain ⟨g, C, hm, hx'⟩ := hx
        obtain ⟨fs, x0, hu, h0, h1, h2⟩ := field_u hf
        subst h1 h2
        refine did_val h (c := .ptr b (off + x0.offset)) (x := .pointer (some ⟨g, off + x0.offset, none⟩)) ?_ ⟨g, C, hm, rfl⟩ hg
        simp [execOp, ho, hx', Instr.fieldAt, run_underlying hu, h0, Instr.sureAddr, fieldPlace, sz_run hs, Addr.add_lit]
      · cases hg
    · cases hg
  | field s x f =>
    have hx := hρ x (by simp [ho, Op.operands])
    simp only [opM, ho] at hg
    split at hg
    · next cs i t hb hf =>
      rw [hb] at hx
      obtain ⟨arr, hx', hc⟩ := hx
      have hl := RWs_length hc
      obtain ⟨c, v, hv, hk, _, hrun⟩ := take_sound (w := w) (xs := arr.toList) hg (by rw [List.take_of_length_le (by omega)]; exact hc)
      obtain ⟨fs, x0, hu, h0, h1, h2⟩ := field_u hf
      subst h1 h2
      have hrun := hrun (by omega)
      rw [Array.toArray_toList] at hrun
      refine did_val h (x := v) ?_ hv hk
      simp [execOp, ho, hx', Instr.field, run_underlying hu, h0, asAgg, hrun]
    · cases hg
  | indexAddr t x i =>
    have hx := hρ x (by simp [ho, Op.operands])
    have hi := hρ i (by simp [ho, Op.operands])
    simp only [opM, ho] at hg
    split at hg
    · next b off n cap j hb hj =>
      rw [hb] at hx
      obtain ⟨k, hi'⟩ := natW_val hj hi
      obtain ⟨g, C, o', c', hm, hx', hoo, hnc, _⟩ := hx
      split at hg
      · next e he =>
        split at hg
        · next size hs =>
          obtain ⟨hjn, hg⟩ := hg
          have ho' : o' = off := hoo.resolve_right (by omega)
          subst ho'
          refine did_val h (c := .ptr b (o' + j * size)) (x := .pointer (some ⟨g, o' + j * size, none⟩)) ?_ ⟨g, C, hm, rfl⟩ hg
          simp [execOp, ho, hx', hi', Instr.indexAt, asIntOf, run_underlying (elem_u he), hjn, sz_run hs, Addr.add_lit]
        · cases hg
      · cases hg
    · next b off j hb hj =>
      rw [hb] at hx
      obtain ⟨k, hi'⟩ := natW_val hj hi
      obtain ⟨g, C, hm, hx'⟩ := hx
      split at hg
      · next n e he =>
        split at hg
        · next size hs =>
          obtain ⟨hjn, hg⟩ := hg
          refine did_val h (c := .ptr b (off + j * size)) (x := .pointer (some ⟨g, off + j * size, none⟩)) ?_ ⟨g, C, hm, rfl⟩ hg
          simp [execOp, ho, hx', hi', Instr.indexAt, asIntOf, run_underlying (arr_u he), Instr.sureAddr, hjn, sz_run hs, Addr.add_lit]
        · cases hg
      · cases hg
    · cases hg
  | index t x i =>
    have hx := hρ x (by simp [ho, Op.operands])
    have hi := hρ i (by simp [ho, Op.operands])
    simp only [opM, ho] at hg
    split at hg
    · next cs hb =>
      rw [hb] at hx
      obtain ⟨arr, hx', hc⟩ := hx
      have hl := RWs_length hc
      split at hg
      · next j n e hj he =>
        obtain ⟨k, hi'⟩ := natW_val hj hi
        split at hg
        · next size hs =>
          obtain ⟨hjn, hg⟩ := hg
          obtain ⟨c, v, hv, hk, _, hrun⟩ := take_sound (w := w) (xs := arr.toList) hg (by rw [List.take_of_length_le (by omega)]; exact hc)
          have hrun := hrun (by omega)
          rw [Array.toArray_toList] at hrun
          refine did_val h (x := v) ?_ hv hk
          simp [execOp, ho, hx', hi', Instr.index, asIntOf, run_underlying (arr_u he), hjn, sz_run hs, hrun]
        · cases hg
      · cases hg
    · exact hp (fun cs b e => by rw [ho] at e; cases e) hg
  | extract x i =>
    have hx := hρ x (by simp [ho, Op.operands])
    simp only [opM, ho] at hg
    split at hg
    · next vs hb =>
      rw [hb] at hx
      obtain ⟨arr, hx', hc⟩ := hx
      split at hg
      · next c hci =>
        have hlen := RWs_length hc
        have hi : i < vs.length := (List.getElem?_eq_some_iff.1 hci).1
        have hxi : arr.toList[i]? = some (arr.toList[i]'(by omega)) := List.getElem?_eq_getElem (by omega)
        have hv := ((RWs_iff.1 hc).2 i c _ hci hxi).1
        refine did_val h (x := arr.toList[i]'(by omega)) ?_ hv hg
        have hxa : arr[i]? = some (arr.toList[i]'(by omega)) := by rw [← hxi]; simp
        simp [execOp, ho, hx', Instr.extract, hxa]
      · cases hg
    · cases hg
  | makeSlice t l c => exact makeSlice_d h hU ho (hρ l (by simp [ho, Op.operands])) (hρ c (by simp [ho, Op.operands])) hg
  | call c =>
    obtain ⟨callee, args, ts⟩ := c
    cases callee with
    | value f => simp only [opM, ho] at hg; cases hg
    | invoke r n => simp only [opM, ho] at hg; cases hg
    | builtin b =>
      have hpp := hp (fun cs b e => by rw [ho] at e; cases e)
      simp only [opM, ho] at hg
      split at hg
      · next s x t u hsx htu =>
        have hargs : args = #[s, x] := by cases args; simp_all
        have htys : ts = #[t, u] := by cases ts; simp_all
        subst hargs htys
        exact append_d h hU ho (hρ s (by simp [ho, Op.operands, Call.operands])) (hρ x (by simp [ho, Op.operands, Call.operands])) hg
      · next s x t u hsx htu =>
        have hargs : args = #[s, x] := by cases args; simp_all
        have htys : ts = #[t, u] := by cases ts; simp_all
        subst hargs htys
        exact copy_d h ho (hρ s (by simp [ho, Op.operands, Call.operands])) (hρ x (by simp [ho, Op.operands, Call.operands])) hg
      · next x t hsx htu =>
        have hargs : args = #[x] := by cases args; simp_all
        have htys : ts = #[t] := by cases ts; simp_all
        subst hargs htys
        have hx := hρ x (by simp [ho, Op.operands, Call.operands])
        have run : ∀ {n : Int}, (Builtin.len_ #[t] o.type #[a.eval x]).run P w = .ok (.int .i64 n) w → (execOp a.eval o).run P w = .ok (.value (.int .i64 n)) w := by
          intro n hr
          rw [run_builtin ho]
          simp [builtin, hr]
        split at hg
        · next b off n cap hb =>
          rw [hb] at hx
          obtain ⟨g, C, o', c', hm, hx', _⟩ := hx
          split at hg
          · next e he =>
            exact did_val h (c := .v (.int .i64 n)) (x := .int .i64 n) (run (by simp [Builtin.len_, run_underlying (elem_u he), hx', goInt])) rfl hg
          · cases hg
        · next b hb =>
          rw [hb] at hx
          obtain ⟨g, C, hm, hx'⟩ := hx
          split at hg
          · next kt he =>
            replace hg := getO hg
            obtain ⟨y, hl, hg⟩ := hg
            split at hg
            · next es clock =>
              obtain ⟨g', C', arr, h1, h2, h3, h4, h5⟩ := h.hst b _ hl
              rw [hm] at h1; cases h1
              exact did_val h (c := .v (.int .i64 (es.length : Int))) (x := .int .i64 (es.length : Int)) (run (by simp [Builtin.len_, run_underlying (map_u he), hx', goInt, run_getObj_any h3 (fun _ _ _ e => by cases e), h4])) rfl hg
            · cases hg
          · cases hg
        · exact hpp hg
      · next x t hsx htu =>
        have hargs : args = #[x] := by cases args; simp_all
        have htys : ts = #[t] := by cases ts; simp_all
        subst hargs htys
        have hx := hρ x (by simp [ho, Op.operands, Call.operands])
        split at hg
        · next b off n c hb =>
          rw [hb] at hx
          obtain ⟨g, C, o', c', hm, hx', _, _, _, hce, _⟩ := hx
          obtain rfl := hce c rfl
          split at hg
          · next e he =>
            refine did_val h (c := .v (.int .i64 c')) (x := .int .i64 c') ?_ rfl hg
            rw [run_builtin ho]
            simp [builtin, Builtin.cap_, run_underlying (elem_u he), hx', goInt]
          · cases hg
        · exact hpp hg
      · exact hpp hg
  | go c => simp only [opM, ho] at hg; cases hg
  | defer c => simp only [opM, ho] at hg; cases hg
  | select cs b => simp only [opM, ho] at hg; cases hg
  | _ => exact hp (fun cs b e => by rw [ho] at e; cases e) (by simpa only [opM, ho] using hg)
end
end Go.Ev.Mi
/- The mirror machine: calls see what they can reach; steps. -/
set_option linter.unusedVariables false
set_option linter.unusedSimpArgs false
namespace Go.Ev.Mi
open Go.RowKit
noncomputable section

def deads (sr : SB) : SB := sr.map fun p => (p.1, B.dead)

theorem look_deads : ∀ (sr : SB) (b : Nat), look (deads sr) b = (look sr b).map fun _ => B.dead
  | [], b => rfl
  | (i, x) :: sr, b => by
    show look ((i, B.dead) :: deads sr) b = _
    rw [look_cons, look_cons]
    split
    · rfl
    · exact look_deads sr b

section
variable {O : Nat → Prop} {w0 : World} {M0 : MM} {N0 : Nat} {U : Nat → Prop} {m : MM} {sz : Nat} {tm : TW} {st : SB} {a : Act} {w : World}

/-- What a call may own: what it can reach, and what it makes. -/
def OwnF (O : Nat → Prop) (m : MM) (st sr : SB) (g : Nat) : Prop := O g ∧ ∀ b C, alive st b → m b = some (g, C) → ∃ x, look sr b = some x

theorem RelM.frame_in (h : RelM O w0 M0 N0 U m sz tm st a w) {top : Nat} (hU : ∀ b, top ≤ b → U b) {sr : SB} (hsr : ∀ b x, look sr b = some x → look st b = some x) :
    RelH (OwnF O m st sr) w m top top m sr w := by
  have hal : ∀ b, alive sr b → alive st b := by rintro b ⟨x, hx, h0⟩; exact ⟨x, hsr b x hx, h0⟩
  refine { htm := fun i => trivial, hsz := rfl, hst := ?_, inj := fun b b' g c c' a1 a2 => h.inj b b' g c c' (hal b a1) (hal b' a2), fresh := ?_, un := fun b hb => hb, mlt := h.mlt, pin := fun _ _ e => e, low := fun _ _ e => .inl e, below := Own.refl _ _, hb := ?_ }
  · intro b x hx
    by_cases hd : x = .dead
    · subst hd; trivial
    refine (h.hst b x (hsr b x hx)).mono (fun _ _ e => e) fun g C hg ho => ⟨rfl, ho, fun b' C' ha hm => ?_⟩
    have := h.inj b b' g C C' ⟨x, hsr b x hx, hd⟩ ha hg hm
    subst this
    exact ⟨x, hx⟩
  · intro b hb
    refine ⟨?_, (h.fresh b (hU b hb)).2⟩
    cases e : look sr b with
    | none => rfl
    | some x => have := hsr b x e; rw [(h.fresh b (hU b hb)).1] at this; cases this
  · intro g hg
    refine ⟨h.hb g (Nat.le_trans h.below.size hg), fun b C _ hm => ?_⟩
    have := h.mlt _ _ _ hm
    omega

theorem RelM.frame_out (h : RelM O w0 M0 N0 U m sz tm st a w) {top top' : Nat} (hU : ∀ b, top ≤ b → U b) (htt : top ≤ top') {sr : SB} (hsr : ∀ b x, look sr b = some x → look st b = some x) {m' : MM} {s2 : SB} {w' : World}
    (hs2 : ∀ b x, look s2 b = some x → top ≤ b ∨ ∃ y, look sr b = some y) (k : RelH (OwnF O m st sr) w m top top' m' s2 w') :
    RelM O w0 M0 N0 (fun b => U b ∧ (top ≤ b → top' ≤ b)) m' sz tm (s2 ++ (deads sr ++ st)) a w' := by
  have hlk : ∀ b, look (s2 ++ (deads sr ++ st)) b = (look s2 b).or (((look sr b).map fun _ => B.dead).or (look st b)) := by
    intro b
    rw [look_append, look_append, look_deads]
  have cases3 : ∀ b x, look (s2 ++ (deads sr ++ st)) b = some x → look s2 b = some x ∨ x = .dead ∨ (look s2 b = none ∧ look sr b = none ∧ look st b = some x) := by
    intro b x hx
    rw [hlk] at hx
    cases h2 : look s2 b with
    | some y => rw [h2] at hx; exact .inl (by simpa using hx)
    | none =>
      rw [h2] at hx
      cases h1 : look sr b with
      | some y => rw [h1] at hx; right; left; simpa using hx.symm
      | none => rw [h1] at hx; right; right; exact ⟨rfl, rfl, by simpa using hx⟩
  have hout : ∀ b x, look sr b = none → look st b = some x → x ≠ .dead → ∀ g C, m b = some (g, C) → ¬ OwnF O m st sr g := by
    intro b x h1 h2 h3 g C hm ho
    obtain ⟨y, hy⟩ := ho.2 b C ⟨x, h2, h3⟩ hm
    rw [h1] at hy; cases hy
  refine { htm := fun i => RW.mono k.pin _ _ (h.htm i), hsz := h.hsz, hst := ?_, inj := ?_, fresh := ?_, un := fun b hb => h.un b hb.1, mlt := k.mlt, pin := fun b y e => k.pin b y (h.pin b y e), low := ?_, below := h.below.trans (k.below.mono fun g hg => hg.1), hb := h.hb }
  · intro b x hx
    rcases cases3 b x hx with h2 | rfl | ⟨h2, h1, h0⟩
    · exact (k.hst b x h2).mono (fun _ _ e => e) fun g C _ ho => ⟨rfl, ho.1⟩
    · trivial
    · by_cases hd : x = .dead
      · subst hd; trivial
      exact (h.hst b x h0).mono k.pin fun g C hg ho => ⟨k.below.block g (hout b x h1 h0 hd g C hg), ho⟩
  · have kind : ∀ b, alive (s2 ++ (deads sr ++ st)) b → ∀ g C, m' b = some (g, C) → (alive s2 b ∧ OwnF O m st sr g) ∨ (alive st b ∧ m b = some (g, C) ∧ ¬ OwnF O m st sr g) := by
      rintro b ⟨x, hx, hd⟩ g C hg
      rcases cases3 b x hx with h2 | rfl | ⟨h2, h1, h0⟩
      · obtain ⟨g', C', h3, h4⟩ := (k.hst b x h2).at hd
        rw [hg] at h3; cases h3
        exact .inl ⟨⟨x, h2, hd⟩, h4⟩
      · exact absurd rfl hd
      · obtain ⟨g', C', h3, h4⟩ := (h.hst b x h0).at hd
        have := k.pin _ _ h3
        rw [hg] at this; cases this
        exact .inr ⟨⟨x, h0, hd⟩, h3, hout b x h1 h0 hd g C h3⟩
    intro b b' g c c' ha ha' hg hg'
    rcases kind b ha g c hg with ⟨q1, q2⟩ | ⟨q1, q2, q3⟩
    · rcases kind b' ha' g c' hg' with ⟨p1, p2⟩ | ⟨p1, p2, p3⟩
      · exact k.inj b b' g c c' q1 p1 hg hg'
      · exact absurd q2 p3
    · rcases kind b' ha' g c' hg' with ⟨p1, p2⟩ | ⟨p1, p2, p3⟩
      · exact absurd p2 q3
      · exact h.inj b b' g c c' q1 p1 q2 p2
  · rintro b ⟨hb, hbt⟩
    obtain ⟨e1, e2⟩ := h.fresh b hb
    have hsrn : look sr b = none := by
      cases e : look sr b with
      | none => rfl
      | some x => have := hsr b x e; rw [e1] at this; cases this
    by_cases hle : top ≤ b
    · obtain ⟨k1, k2⟩ := k.fresh b (hbt hle)
      exact ⟨by rw [hlk, k1, hsrn, e1]; rfl, k2⟩
    · have hs2n : look s2 b = none := by
        cases e : look s2 b with
        | none => rfl
        | some x =>
          rcases hs2 b x e with h1 | ⟨y, hy⟩
          · exact absurd h1 hle
          · rw [hsrn] at hy; cases hy
      refine ⟨by rw [hlk, hs2n, hsrn, e1]; rfl, ?_⟩
      cases e : m' b with
      | none => rfl
      | some y =>
        rcases k.low b y e with h1 | h1
        · rw [e2] at h1; cases h1
        · exact absurd h1 hle
  · intro b y e
    rcases k.low b y e with h1 | h1
    · exact h.low b y h1
    · exact .inr (Nat.le_trans (h.un top (hU top (Nat.le_refl _))) h1)
end

/-! What can be reached. -/
mutual
def refsW : W → List Nat
  | .ptr b _ => [b]
  | .sl b _ _ _ => [b]
  | .mp b => [b]
  | .yld b => [b]
  | .agg cs => refsL cs
  | .tup cs => refsL cs
  | .fn _ caps => refsL caps
  | .ifc _ x => refsW x
  | .v _ => []
  | .top => []
def refsL : List W → List Nat
  | [] => []
  | c :: cs => refsW c ++ refsL cs
end
def refsB : B → List Nat
  | .cells cs _ _ => refsL cs
  | .map es _ => es.flatMap fun e => refsW e.2.1
  | .loop r => r.tm.flatMap fun p => refsW p.2
  | _ => []
def cloW (st : SB) : Nat → List Nat → List Nat → List Nat
  | 0, _, kept => kept
  | _ + 1, [], kept => kept
  | n + 1, b :: work, kept => match memN kept b with
    | true => cloW st n work kept
    | false => match look st b with
      | some x => cloW st n (refsB x ++ work) (b :: kept)
      | none => cloW st n work kept
/-- The boxes that are reached. -/
def pickS (st : SB) : List Nat → SB
  | [] => []
  | b :: l => match look st b with
    | some x => (b, x) :: pickS st l
    | none => pickS st l
def reach (st : SB) (l : List Nat) : SB := pickS st (cloW st 100000 l [])

theorem look_pick (st : SB) : ∀ (l : List Nat) (b : Nat) (x : B), look (pickS st l) b = some x → look st b = some x
  | [], b, x, h => by cases h
  | c :: l, b, x, h => by
    simp only [pickS] at h
    split at h
    · next y hy =>
      rw [look_cons] at h
      split at h
      · next e => subst e; cases h; exact hy
      · exact look_pick st l b x h
    · exact look_pick st l b x h

theorem look_keys : ∀ (st : SB) (b : Nat) (x : B), look st b = some x → b ∈ st.map (·.1)
  | [], b, x, h => by cases h
  | (i, y) :: st, b, x, h => by
    rw [look_cons] at h
    split at h
    · next e => subst e; simp
    · simp [look_keys st b x h]

/-- A call: what is called, its arguments, the boxes, the first new number. -/
abbrev WH := W → List W → SB → Nat → Option (W × SB × Nat)

def After (O : Nat → Prop) (w : World) (m : MM) (top : Nat) (st' : SB) (top' : Nat) (r : W) (e : Ending) (w' : World) : Prop :=
  ∃ v m', e = .returned v ∧ RelH O w m top top' m' st' w' ∧ RW m' r v
def FnOK (P : Program) (g : FuncId) (args : List W) (st : SB) (top : Nat) (r : W) (st' : SB) (top' : Nat) : Prop :=
  ∀ (O : Nat → Prop) (m : MM) (w : World) (vs : List Value), RelH O w m top top m st w → RWs m false args vs → Calls P g vs.toArray w (After O w m top st' top' r)
def YldOK (P : Program) (b : Nat) (args : List W) (st : SB) (top : Nat) (r : W) (st' : SB) (top' : Nat) : Prop :=
  ∀ (O : Nat → Prop) (m : MM) (w : World) (vs : List Value), RelH O w m top top m st w → RWs m false args vs → ∀ g C, m b = some (g, C) →
    ∃ fn tmps assign body, (Instr.yield g vs.toArray).run P w = .ok (.round g fn tmps assign body) w ∧ ∀ FF, Wide FF → RoundIn FF 0 P g fn tmps assign body w (After O w m top st' top' r)
def HOK (P : Program) (H : WH) : Prop := ∀ c avs st top r st' top', H c avs st top = some (r, st', top') → top ≤ top' ∧ match c with
  | .fn g caps => EntersOK P g ∧ FnOK P g (avs ++ caps) st top r st' top'
  | .yld b => YldOK P b avs st top r st' top'
  | _ => False

section
variable (P : Program)

/-! The same values, reckoned out. -/
section
variable {β : Type}
def kO (n : Option Nat) (k : Option Nat → β) : β := match n with
  | none => k none
  | some n => kN n fun n => k (some n)
mutual
def kW (c : W) (k : W → β) : β := match c with
  | .top => k .top
  | .v (.int j n) => kI n fun n => k (.v (.int j n))
  | .v (.bool b) => kB b fun b => k (.v (.bool b))
  | .v x => k (.v x)
  | .agg cs => kWs cs fun cs => k (.agg cs)
  | .tup cs => kWs cs fun cs => k (.tup cs)
  | .ptr b off => kN b fun b => kN off fun off => k (.ptr b off)
  | .sl b off n cap => kN b fun b => kN off fun off => kN n fun n => kO cap fun cap => k (.sl b off n cap)
  | .mp b => kN b fun b => k (.mp b)
  | .fn g caps => kWs caps fun caps => k (.fn g caps)
  | .yld b => kN b fun b => k (.yld b)
  | .ifc t x => kW x fun x => k (.ifc t x)
def kWs (cs : List W) (k : List W → β) : β := match cs with
  | [] => k []
  | c :: cs => kW c fun c => kWs cs fun cs => k (c :: cs)
end
def kE : List (Value × W × Nat) → (List (Value × W × Nat) → β) → β
  | [], k => k []
  | (x, c, n) :: es, k => kW c fun c => kN n fun n => kE es fun es => k ((x, c, n) :: es)
def kX (x : B) (k : B → β) : β := match x with
  | .cells cs e size => kWs cs fun cs => k (.cells cs e size)
  | .map es c => kE es fun es => kN c fun c => k (.map es c)
  | x => k x
def kSB : SB → (SB → β) → β
  | [], k => k []
  | (b, x) :: st, k => kN b fun b => kX x fun x => kSB st fun st => k ((b, x) :: st)

theorem kO_eq (n : Option Nat) (k : Option Nat → β) : kO n k = k n := by cases n <;> simp only [kO, kN_eq]
mutual
theorem kW_eq : ∀ (c : W) (k : W → β), kW c k = k c
  | .top, k => rfl
  | .v x, k => by
    cases x <;> simp only [kW, kI_eq, kB_eq]
  | .agg cs, k => by simp only [kW, kWs_eq cs]
  | .tup cs, k => by simp only [kW, kWs_eq cs]
  | .ptr b off, k => by simp only [kW, kN_eq]
  | .sl b off n cap, k => by simp only [kW, kN_eq, kO_eq]
  | .mp b, k => by simp only [kW, kN_eq]
  | .fn g caps, k => by simp only [kW, kWs_eq caps]
  | .yld b, k => by simp only [kW, kN_eq]
  | .ifc t x, k => by simp only [kW, kW_eq x]
theorem kWs_eq : ∀ (cs : List W) (k : List W → β), kWs cs k = k cs
  | [], k => by simp only [kWs]
  | c :: cs, k => by simp only [kWs, kW_eq c, kWs_eq cs]
end
theorem kE_eq : ∀ (es : List (Value × W × Nat)) (k : List (Value × W × Nat) → β), kE es k = k es
  | [], k => rfl
  | (x, c, n) :: es, k => by simp only [kE, kW_eq, kN_eq, kE_eq es]
theorem kX_eq (x : B) (k : B → β) : kX x k = k x := by
  unfold kX
  split <;> simp only [kWs_eq, kE_eq, kN_eq]
theorem kSB_eq : ∀ (st : SB) (k : SB → β), kSB st k = k st
  | [], k => rfl
  | (b, x) :: st, k => by simp only [kSB, kN_eq, kX_eq, kSB_eq st]
end

/-- A step: its value, what it writes, what it reads, the next new number. -/
def xcallF (H : WH) (c : W) (avs : List W) (st : SB) (top : Nat) : Option (W × SB × List Nat × Nat) :=
  let sr := reach st (refsW c ++ refsL avs)
  match H c avs sr top with
  | some (r, s2, top') => match s2.all fun p => Nat.ble top p.1 || (look sr p.1).isSome with
    | true => some (r, s2 ++ deads sr, sr.map (·.1), top')
    | false => none
  | none => none

def isCallO : Op → Bool
  | .call { callee := .value _, .. } => true
  | .call { callee := .invoke _ _, .. } => true
  | _ => false

/-- The function that a method of a dynamic type is, whose receiver is the value as it is. -/
def invokeW (t : TypeId) (name : String) : Option FuncId := match P.info? t with
  | some i => match i.methods.find? (·.name == name) with
    | some mt => match mt.path.toList, mt.func with
      | [], some (f, pr) => match P.underlying t, pr with
        | some (.pointer _), true => some f
        | some (.pointer _), false => none
        | some _, false => some f
        | _, _ => none
      | _, _ => none
    | none => none
  | none => none

def xstep (H : WH) (id top : Nat) (tm : TW) (st : SB) (o : Oper) : Option (W × SB × List Nat × Nat) := match o.op with
  | .call { callee := .value f, args, .. } => xcallF H (evW tm f) (args.toList.map (evW tm)) st top
  | .call { callee := .invoke r name, args, .. } => match evW tm r with
    | .ifc t x => match invokeW P t name with
      | some g => xcallF H (.fn g []) (x :: args.toList.map (evW tm)) st top
      | none => none
    | _ => none
  | _ => match (opM P id (evW tm) o).x st [] [] with
    | some (v, _, rs, us) => kW v fun v => kSB us fun us => some (v, us, rs, top)
    | none => none

/-- A step is one of the model's, wherever what it reads is the same. -/
def StepOK (sz : Nat) (ops : Array Oper) (o : Oper) (id top : Nat) (tm : TW) (L : Nat → Option B) (rs : List Nat) (us : SB) (v : W) (top' : Nat) : Prop :=
  ∀ (tm2 : TW) (st2 : SB), (∀ t ∈ o.looksAt ops, look tm2 t = look tm t) → (∀ b ∈ rs, look st2 b = L b) →
    ∀ (O : Nat → Prop) (w0 : World) (M0 : MM) (N0 : Nat) (U : Nat → Prop) (m : MM) (a : Act) (w : World) (next : Act → World → Prop) (Q : Exit → Act → World → Prop), RelM O w0 M0 N0 U m sz tm2 st2 a w → U id → (isCallO o.op = true → ∀ b, top ≤ b → U b) →
      (∀ m' a' w', RelM O w0 M0 N0 (fun b => U b ∧ b ≠ id ∧ (isCallO o.op = true → top ≤ b → top' ≤ b)) m' sz (putW tm2 o.dst v) (us ++ st2) a' w' → (∀ b y, m b = some y → m' b = some y) → a'.defers = a.defers → next a' w') → o.wpX P a w next Q
end

section
variable {P : Program}

theorem put_defers (a : Act) (d : Option Tmp) (x : Value) : (a.put d x).defers = a.defers := by cases d <;> rfl

theorem args_d {m : MM} {tm : TW} {a : Act} {l : List Operand} (h : ∀ x ∈ l, RW m (evW tm x) (a.eval x)) : RWs m false (l.map (evW tm)) (l.map a.eval) := caps_d h

theorem evW_look {tm tm' : TW} {x : Operand} (h : ∀ t, x = .tmp t → look tm' t = look tm t) : evW tm' x = evW tm x := by
  cases x with
  | tmp t => simp only [evW, h t rfl]
  | _ => rfl

theorem invoke_run {t : TypeId} {name : String} {g : FuncId} (hi : invokeW P t name = some g) (henter : EntersOK P g) {x : Value} {args : Array Value} (w : World) : (callMethod (.iface t x) name args).run P w = .ok (.enter g (#[x] ++ args)) w := by
  unfold invokeW at hi
  split at hi
  · next i hti =>
    split at hi
    · next mt hm =>
      split at hi
      · next f pr hp hf =>
        have hpath : mt.path.toList = [] := hp
        have hr : (∀ wr, (receiverAt t (.val x) pr wr).run P w = .ok x w) ∧ f = g := by
          split at hi
          · next e hu => cases hi; exact ⟨fun wr => by simp [receiverAt, run_underlying hu, Place.get], rfl⟩
          · cases hi
          · next d hu hnp hd =>
            cases hi
            refine ⟨fun wr => ?_, rfl⟩
            simp only [receiverAt, Sem.run_bind, run_underlying hd, Result.andThen_ok]
            cases d <;> first | (simp [Place.get]; done) | exact absurd hd (hnp _)
          · cases hi
        obtain ⟨hr, rfl⟩ := hr
        have hfuel : P.types.size + Made.depth = (P.types.size + Made.depth - 1) + 1 := by simp [Made.depth]
        have hmeth : (method (P.types.size + Made.depth) t x name).run P w = .ok (f, x) w := by
          rw [hfuel]
          simp [method, typeInfo, hti, hm, hpath, follow, hf, hr]
        simp only [callMethod, Sem.run_bind, program, Sem.run, Result.andThen, Sem.run_pure, hmeth]
        exact henter _ _
      · cases hi
    · cases hi
  · cases hi

theorem xstep_ok {H : WH} (hH : HOK P H) {sz : Nat} {ops : Array Oper} {o : Oper} {id top : Nat} {tm : TW} {st : SB} {v : W} {us : SB} {rs : List Nat} {top' : Nat} (hd : okDst sz o.dst = true)
    (hx : xstep P H id top tm st o = some (v, us, rs, top')) : top ≤ top' ∧ (isCallO o.op = false → top' = top) ∧ StepOK P sz ops o id top tm (look st) rs us v top' := by
  have plain : isCallO o.op = false → (match (opM P id (evW tm) o).x st [] [] with
      | some (v, _, rs, us) => kW v fun v => kSB us fun us => some (v, us, rs, top)
      | none => none) = some (v, us, rs, top') → top ≤ top' ∧ (isCallO o.op = false → top' = top) ∧ StepOK P sz ops o id top tm (look st) rs us v top' := by
    intro hnc he
    split at he
    · next v1 st1 rs1 us1 h1 =>
      rw [kW_eq, kSB_eq] at he
      cases he
      refine ⟨Nat.le_refl _, fun _ => rfl, ?_⟩
      intro tm2 st2 ht hr O w0 M0 N0 U m a w next Q h hU _ hn
      obtain ⟨vs, e1, e2, e3, e4⟩ := T.x_us _ _ _ _ _ _ _ _ h1
      have h2 := e4 st2 hr
      simp only [List.append_nil] at e1
      subst e1
      have hρ : ∀ z ∈ o.op.operands, RW m (evW tm z) (a.eval z) := by
        intro z hz
        have := h.ev z
        rwa [evW_look (tm := tm) fun t e => ht t (by subst e; exact mem_looksAt hz)] at this
      obtain ⟨n, x, w', m', v', st', hrun, hcase, hR, hmm, hrw, hv', hs'⟩ := op_d (id := id) h hU hρ (T.x_go (K := fun v' s' => v' = v ∧ s' = us ++ st2) _ _ _ _ _ _ _ _ h2 ⟨rfl, rfl⟩)
      subst hv' hs'
      have fin := hn m' _ w' ((hR.weakU (U' := fun b => U b ∧ b ≠ id ∧ (isCallO o.op = true → top ≤ b → top ≤ b)) fun b e => ⟨e.1, e.2.1⟩).put hd hrw) hmm (put_defers _ _ _)
      rcases hcase with rfl | ⟨rfl, rfl⟩
      · exact fin_value hrun fin
      · exact fin_skip hrun fin
    · cases he
  have called : ∀ (c : W) (avs : List W), isCallO o.op = true → (∀ z ∈ o.op.operands, ∀ b ∈ refsW (evW tm z), True) → xcallF H c avs st top = some (v, us, rs, top') →
      (∀ (tm2 : TW) (m : MM) (a : Act) (w : World), (∀ t ∈ o.looksAt ops, look tm2 t = look tm t) → (∀ z ∈ o.op.operands, RW m (evW tm z) (a.eval z)) →
        (∃ g caps vs, c = .fn g caps ∧ (EntersOK P g → (execOp a.eval o).run P w = .ok (.enter g vs.toArray) w) ∧ RWs m false (avs ++ caps) vs) ∨
        (∃ b vs, c = .yld b ∧ ∀ g C, m b = some (g, C) → (∀ n, (Instr.yield g vs.toArray).run P w = .ok n w → (execOp a.eval o).run P w = .ok n w) ∧ RWs m false avs vs) ∧ ∃ b g C, c = .yld b ∧ m b = some (g, C)) →
      top ≤ top' ∧ (isCallO o.op = false → top' = top) ∧ StepOK P sz ops o id top tm (look st) rs us v top' := by
    intro c avs hco _ hcall hargs
    unfold xcallF at hcall
    simp only at hcall
    split at hcall
    · next r s2 top1 hc1 =>
      split at hcall
      · next hall =>
        cases hcall
        obtain ⟨htt, hcase⟩ := hH _ _ _ _ _ _ _ hc1
        refine ⟨htt, fun e => (by rw [hco] at e; cases e), ?_⟩
        intro tm2 st2 ht hr O w0 M0 N0 U m a w next Q h hU hUt hn
        replace hUt := hUt hco
        have hops : ∀ z ∈ o.op.operands, RW m (evW tm z) (a.eval z) := by
          intro z hz
          have := h.ev z
          rwa [evW_look (tm := tm) fun t e => ht t (by subst e; exact mem_looksAt hz)] at this
        have hsr : ∀ b x, look (reach st (refsW c ++ refsL avs)) b = some x → look st2 b = some x := by
          intro b x hb
          rw [hr b (look_keys _ _ _ hb)]
          exact look_pick _ _ _ _ hb
        have hs2 : ∀ b x, look s2 b = some x → top ≤ b ∨ ∃ y, look (reach st (refsW c ++ refsL avs)) b = some y := by
          intro b x hb
          have := List.all_eq_true.1 hall (b, x) (look_mem hb)
          simp only [Bool.or_eq_true] at this
          rcases this with h1 | h1
          · exact .inl (Nat.le_of_ble_eq_true h1)
          · exact .inr (Option.isSome_iff_exists.1 h1)
        have fin : ∀ m' x w', RelH (OwnF O m st2 (reach st (refsW c ++ refsL avs))) w m top top' m' s2 w' → RW m' v x → next (a.put o.dst x) w' := by
          intro m' x w' k hrw
          have hR := h.frame_out hUt htt hsr hs2 k
          rw [← List.append_assoc] at hR
          exact hn m' _ w' ((hR.weakU fun b e => ⟨e.1, e.2.2 hco⟩).put hd hrw) k.pin (put_defers _ _ _)
        have hnd : ∀ {n : Next}, (execOp a.eval o).run P w = .ok n w → (∀ d, n ≠ .defer d) → o.semAt = o.semAt := fun _ _ => rfl
        rcases hargs tm2 m a w ht hops with ⟨g, caps, vs, rfl, hrun, hval⟩ | ⟨⟨b, vs, rfl, hrun⟩, b', g, C, hb', hm⟩
        · obtain ⟨henter, hok⟩ := hcase
          have hrun := hrun henter
          intro FF hW
          refine ⟨fun f _ => hW.fn f, ?_⟩
          rw [Oper.semAt_eq _ _ _ (not_defer hrun (fun d e => by cases e)), hrun]
          refine ⟨fun e => (by rw [hW.dep] at e; cases e), (callsIn_of_calls hW ?_)⟩
          refine (hok _ m w _ (h.frame_in hUt hsr) hval).mono ?_
          rintro e w' ⟨x, m', rfl, k, hrw⟩
          exact fin m' x w' k hrw
        · cases hb'
          obtain ⟨hrun, hval⟩ := hrun g C hm
          obtain ⟨fn, tmps, assign, body, hy, hround⟩ := hcase _ m w _ (h.frame_in hUt hsr) hval g C hm
          have hrun := hrun _ hy
          intro FF hW
          refine ⟨fun f _ => hW.fn f, ?_⟩
          rw [Oper.semAt_eq _ _ _ (not_defer hrun (fun d e => by cases e)), hrun]
          refine ⟨fun e => (by rw [hW.dep] at e; cases e), (hround FF hW).mono ?_⟩
          rintro e w' ⟨x, m', rfl, k, hrw⟩
          exact fin m' x w' k hrw
      · cases hcall
    · cases hcall
  unfold xstep at hx
  split at hx
  · next f args ts ho =>
    have hH2 := hx
    refine called _ _ (by simp [ho, isCallO]) (fun _ _ _ _ => trivial) hx ?_
    intro tm2 m a w ht hops
    have hf : RW m (evW tm f) (a.eval f) := hops f (by simp [ho, Op.operands, Call.operands])
    have hargs := args_d (m := m) (tm := tm) (a := a) (l := args.toList) fun x hx => hops x (by simp [ho, Op.operands, Call.operands]; right; simpa using hx)
    -- what is called
    have hkind : (∃ g caps, evW tm f = .fn g caps) ∨ (∃ b, evW tm f = .yld b) := by
      unfold xcallF at hH2
      simp only at hH2
      split at hH2
      · next r s2 top1 hc1 =>
        have := (hH _ _ _ _ _ _ _ hc1).2
        revert this
        generalize evW tm f = cf
        intro this
        cases cf <;> first | exact .inl ⟨_, _, rfl⟩ | exact .inr ⟨_, rfl⟩ | exact this.elim
      · cases hH2
    rcases hkind with ⟨g, caps, hcf⟩ | ⟨b, hcf⟩
    · rw [hcf] at hf ⊢
      obtain ⟨arr, hf', hcaps⟩ := hf
      refine .inl ⟨g, caps, args.toList.map a.eval ++ arr.toList, rfl, fun henter => ?_, RWs_append hargs hcaps⟩
      simp only [execOp, ho, resolve, Deferred.ofValue, hf', Sem.run_bind, Sem.run_pure, Result.andThen_ok, invoke]
      have e : (#[] ++ args.map a.eval ++ arr) = (args.toList.map a.eval ++ arr.toList).toArray := by
        apply Array.ext'
        simp
      rw [e, henter]
    · rw [hcf] at hf ⊢
      obtain ⟨g, C, hm, hf'⟩ := hf
      refine .inr ⟨⟨b, args.toList.map a.eval, rfl, fun g' C' hm' => ⟨fun n hy => ?_, hargs⟩⟩, b, g, C, rfl, hm⟩
      rw [hm] at hm'; cases hm'
      simp only [execOp, ho, resolve, Deferred.ofValue, hf', Sem.run_bind, Sem.run_pure, Result.andThen_ok, invoke]
      have e : (#[] ++ args.map a.eval) = (args.toList.map a.eval).toArray := by
        apply Array.ext'
        simp
      rw [e, hy]
  · next r name args ts ho =>
    split at hx
    · next t y hcf =>
      split at hx
      · next g hi =>
        refine called _ _ (by simp [ho, isCallO]) (fun _ _ _ _ => trivial) hx ?_
        intro tm2 m a w ht hops
        have hf : RW m (evW tm r) (a.eval r) := hops r (by simp [ho, Op.operands, Call.operands])
        have hargs := args_d (m := m) (tm := tm) (a := a) (l := args.toList) fun x hx => hops x (by simp [ho, Op.operands, Call.operands]; right; simpa using hx)
        rw [hcf] at hf
        obtain ⟨z, hf', hz⟩ := hf
        refine .inl ⟨g, [], z :: args.toList.map a.eval, rfl, fun henter => ?_, by rw [List.append_nil]; exact ⟨⟨hz, fun e => by cases e⟩, hargs⟩⟩
        have e : (#[Value.iface t z] ++ args.map a.eval).extract 1 (#[Value.iface t z] ++ args.map a.eval).size = args.map a.eval := by
          apply Array.ext'
          simp
          exact List.take_of_length_le (by simp)
        have e2 : (#[z] ++ args.map a.eval) = (z :: args.toList.map a.eval).toArray := by apply Array.ext'; simp
        have e3 : (#[Value.iface t z] ++ args.map a.eval)[0]? = some (Value.iface t z) := by
          rw [Array.getElem?_append_left (by simp)]; rfl
        have hrun : (execOp a.eval o).run P w = (callMethod (.iface t z) name (args.map a.eval)).run P w := by
          have h1 : (invoke (.fn (.method name) #[]) (#[Value.iface t z] ++ args.map a.eval)).run P w = (callMethod (.iface t z) name (args.map a.eval)).run P w := by
            unfold invoke
            simp only [e3, e]
          rw [← h1, ← hf']
          simp only [execOp, ho, resolve, Sem.run_bind, Sem.run_pure, Result.andThen_ok]
        rw [hrun, invoke_run hi henter, e2]
      · cases hx
    · cases hx
  · next hno hno2 =>
    refine plain ?_ hx
    cases ho : o.op with
    | call c =>
      obtain ⟨callee, args, ts⟩ := c
      cases callee with
      | value f => exact absurd ho (hno _ _ _)
      | invoke r n => exact absurd ho (hno2 _ _ _ _)
      | _ => rfl
    | _ => rfl
end
end
end Go.Ev.Mi
